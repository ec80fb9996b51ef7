import PyProof.Rows.All
import Wide.All
import OpenK.AllK
import Wide.FinOn
import PyProof.EqAt
import PyProof.EqKinds
import PyProof.TupleCall
import KE.BitLaws
import Open.SpecLaws
import KE.OsHead
import KE.OsGo
import PyProof.AutoIntG2
import PySem.Challenge.RW_foretoldbits_s01_answers
set_option Elab.async false
set_option linter.all false
set_option maxRecDepth 100000
set_option maxHeartbeats 2000000
section
namespace L2
open PySem PySem.Spec PyProof.Rows
abbrev Key := Sum Int Str
def keyIs : Key → Value → Bool
  | .inl k, v => Value.isInt k v
  | .inr x, v => Value.isStrOf x v
def keyH (w : World) : Key → Int
  | .inl k => hashInt k
  | .inr x => hashStr w x
theorem keyIs_shape : ∀ {k : Key} {v : Value}, keyIs k v = true → (∃ i t, k = Sum.inl i ∧ v = Value.int i t) ∨ (∃ x t, k = Sum.inr x ∧ v = Value.str x t)
  | .inl i, v, h => by
    obtain ⟨t, e⟩ := Value.isInt_shape (k := i) (v := v) h
    exact .inl ⟨i, t, rfl, e⟩
  | .inr x, v, h => by
    obtain ⟨t, e⟩ := Value.isStrOf_shape (x := x) (v := v) h
    exact .inr ⟨x, t, rfl, e⟩
theorem key_ll (a b : Int) : decide ((Sum.inl a : Key) = Sum.inl b) = (a == b) := by
  by_cases e : a = b
  · subst e; simp
  · have h : ¬ (Sum.inl a : Key) = Sum.inl b := fun q => e (Sum.inl.inj q)
    rw [decide_eq_false h]
    exact (beq_eq_false_iff_ne.mpr e).symm
theorem key_rr (a b : Str) : decide ((Sum.inr a : Key) = Sum.inr b) = decide (a = b) := by
  by_cases e : a = b
  · subst e; simp
  · have h : ¬ (Sum.inr a : Key) = Sum.inr b := fun q => e (Sum.inr.inj q)
    rw [decide_eq_false h, decide_eq_false e]
theorem key_lr (a : Int) (b : Str) : decide ((Sum.inl a : Key) = Sum.inr b) = false := decide_eq_false (fun q => nomatch q)
theorem key_rl (a : Str) (b : Int) : decide ((Sum.inr a : Key) = Sum.inl b) = false := decide_eq_false (fun q => nomatch q)
def mixKind (prog : Program) (w : World) : PySem.KeyKind prog w Key where
  is := keyIs
  hash := keyH w
  inj := fun v a b ha hb => by
    rcases keyIs_shape ha with ⟨i, t, rfl, rfl⟩ | ⟨x, t, rfl, rfl⟩
    · rcases keyIs_shape hb with ⟨j, u, rfl, e⟩ | ⟨y, u, rfl, e⟩
      · injection e with e1 _; rw [e1]
      · exact nomatch e
    · rcases keyIs_shape hb with ⟨j, u, rfl, e⟩ | ⟨y, u, rfl, e⟩
      · exact nomatch e
      · injection e with e1 _; rw [e1]
  byValue := fun k v h => by
    rcases keyIs_shape h with ⟨i, t, rfl, rfl⟩ | ⟨x, t, rfl, rfl⟩ <;> rfl
  pyHash := fun hv h => by
    rcases keyIs_shape hv with ⟨i, t, rfl, rfl⟩ | ⟨x, t, rfl, rfl⟩
    · exact wpAny_pyHash_int h
    · exact wpAny_pyHash_str h
  eqBool := fun hu hv h => by
    rcases keyIs_shape hu with ⟨i, t, rfl, rfl⟩ | ⟨x, t, rfl, rfl⟩
    · rcases keyIs_shape hv with ⟨j, u, rfl, rfl⟩ | ⟨y, u, rfl, rfl⟩
      · rw [key_ll] at h; exact wpAny_eqBool_int h
      · rw [key_lr] at h; exact SeqAt.EqAt.int_str i t y u _ _ _ _ h
    · rcases keyIs_shape hv with ⟨j, u, rfl, rfl⟩ | ⟨y, u, rfl, rfl⟩
      · rw [key_rl] at h; exact SeqAt.EqAt.str_int x t j u _ _ _ _ h
      · rw [key_rr] at h; exact wpAny_eqBool_str h
  «strs» := fun k x t v h => by
    rcases keyIs_shape h with ⟨i, u, rfl, e⟩ | ⟨y, u, rfl, e⟩
    · exact nomatch e
    · injection e with e1 _
      subst e1
      cases v <;> rfl
end L2
namespace L2
open PySem PySem.Spec PyProof.Rows
inductive V where
  | non | bl (b : Bool) | int (i : Int) | str (x : Str) | byt (b : Array UInt8) | flt (b : UInt64) | ref (a : Addr) | ty (n : String)
  deriving DecidableEq
def RelV : V → Value → Prop
  | .non, u => u = Value.none
  | .bl b, u => u = Value.bool b
  | .int i, u => ∃ t, u = Value.int i t
  | .str x, u => ∃ t, u = Value.str x t
  | .byt b, u => ∃ t, u = Value.bytes b t
  | .flt b, u => ∃ t, u = Value.float b t
  | .ref a, u => u = Value.ref a
  | .ty n, u => u = Value.type n
abbrev Vals : List V → List Value → Prop := Paired RelV
theorem Vals.length {xs : List V} {us : List Value} (r : Vals xs us) : xs.length = us.length := Paired.length r
theorem Vals.get : ∀ {xs : List V} {us : List Value} {i : Nat} {x : V}, Vals xs us → xs[i]? = some x → ∃ u, us[i]? = some u ∧ RelV x u
  | _, _, _, _, .nil, e => by simp at e
  | _, _, 0, _, .cons r _, e => by simp at e; subst e; exact ⟨_, rfl, r⟩
  | _, _, i + 1, x, .cons _ t, e => by
    obtain ⟨u, h1, h2⟩ := Vals.get (i := i) (x := x) t (by simpa using e)
    exact ⟨u, by simpa using h1, h2⟩
theorem Vals.set {x : V} {u : Value} (r : RelV x u) : ∀ {xs : List V} {us : List Value} (i : Nat), Vals xs us → Vals (xs.set i x) (us.set i u)
  | _, _, _, .nil => .nil
  | _, _, 0, .cons _ t => .cons r t
  | _, _, i + 1, .cons q t => .cons q (Vals.set r i t)
theorem Vals.append : ∀ {xs ys : List V} {us ws : List Value}, Vals xs us → Vals ys ws → Vals (xs ++ ys) (us ++ ws)
  | _, _, _, _, .nil, s => s
  | _, _, _, _, .cons r t, s => .cons r (Vals.append t s)
theorem Vals.take : ∀ {xs : List V} {us : List Value} (n : Nat), Vals xs us → Vals (xs.take n) (us.take n)
  | _, _, 0, _ => .nil
  | _, _, _ + 1, .nil => .nil
  | _, _, n + 1, .cons r t => .cons r (Vals.take n t)
theorem Vals.drop : ∀ {xs : List V} {us : List Value} (n : Nat), Vals xs us → Vals (xs.drop n) (us.drop n)
  | _, _, 0, r => r
  | _, _, _ + 1, .nil => .nil
  | _, _, n + 1, .cons _ t => Vals.drop n t
def RelO : Option V → Option Value → Prop
  | some v, some u => RelV v u
  | none, none => True
  | _, _ => False
def KV {κ : Type} : List (κ × V) → List (κ × Value) → Prop := Paired fun (p : κ × V) (q : κ × Value) => p.1 = q.1 ∧ RelV p.2 q.2
def kV : Key → V
  | .inl i => .int i
  | .inr x => .str x
inductive HO where
  /-- a list -/
  | lst (xs : List V)
  /-- a tuple (never changes) -/
  | tup (xs : List V)
  /-- a dict whose keys are ints and texts; one whose keys are tuples of ints and texts (the empty one is both) -/
  | dK (kvs : List (Key × V)) | dT (kvs : List (List Key × V))
  /-- a set of ints: its members, its size -/
  | set (S : Int → Bool) (n : Nat)
  /-- an instance of the class at C, its dict at dx, its attributes -/
  | ins (C dx : Addr) (fs : List (Str × V))
  /-- the dict of the instance at x -/
  | own (x : Addr)
  /-- the dict of an exception -/
  | xd (fs : List (Str × V))
  /-- a bound method, f of x -/
  | met (f x : Addr)
  /-- a range object lo, lo + 1, .. below hi -/
  | rng (lo hi : Int)
  /-- a thing that is known to the object (the script; a dict while a loop walks it): read, never written while it is so -/
  | frz (o : Obj) (u : HO)
  /-- a code object's table -/
  | tbl (ps : Array Value)
  /-- any other thing, by what is true of its one object (a def of one's own: SetO a S n := HO.ext fun h => ..) -/
  | ext (φ : Heap → Prop)
abbrev Hp := Addr → Option HO
def upd (H : Hp) (a : Addr) (o : HO) : Hp := fun b => if b = a then some o else H b
theorem upd_same {H : Hp} {a : Addr} {o : HO} : upd H a o a = some o := by unfold upd; rw [if_pos rfl]
theorem upd_ne {H : Hp} {a b : Addr} {o : HO} (h : b ≠ a) : upd H a o b = H b := by unfold upd; rw [if_neg h]
theorem upd_upd {H : Hp} {a : Addr} {o u : HO} : upd (upd H a o) a u = upd H a u := by
  funext b; unfold upd; split <;> rfl
theorem ne_of {H : Hp} {a b : Addr} {o u : HO} (h : H a = some o) (h' : H b = some u) (d : o ≠ u) : a ≠ b := by
  intro e; subst e; rw [h] at h'; exact d (Option.some.inj h')
theorem ne_of_none {H : Hp} {a b : Addr} {o : HO} (h : H a = some o) (h' : H b = none) : a ≠ b := by
  intro e; subst e; rw [h] at h'; cases h'
section
variable (P : Program) (w : World)
def ObjOk (H : Hp) (h : Heap) (a : Addr) : HO → Prop
  | .lst xs => xs.length ≤ sizeLine ∧ ∃ (its : List Value) (n : Nat), Vals xs its ∧ h.get? a = some { cls := .type "list", data := .seq its.toArray n }
  | .tup xs => xs.length ≤ sizeLine ∧ ∃ its : List Value, Vals xs its ∧ IsTup h a its.toArray
  | .dK kvs => kvs.length ≤ sizeLine ∧ (a == sysModules) = false ∧ ∃ vs, KV kvs vs ∧ h.DictOf (mixKind P w) a vs
  | .dT kvs => kvs.length ≤ sizeLine ∧ (a == sysModules) = false ∧ ∃ xs : List (List Key × Addr × Value),
      Paired (fun (p : List Key × V) (q : List Key × Addr × Value) => p.1 = q.1 ∧ H q.2.1 = some (.tup (p.1.map kV)) ∧ RelV p.2 q.2.2) kvs xs ∧
      ∃ o es ep, h.get? a = some o ∧ o.ExactDict ∧ o.data = .dict es ep ∧ es.toList = xs.map (entryOfKey (tupleKind (mixKind P w))) ∧ (xs.map (·.1)).Nodup
  | .set S n => h.SetOf (intKind P w) a S n
  | .ins C dx fs => H dx = some (.own a) ∧ fs.length ≤ 1000 ∧ dx ≠ a ∧ h.get? a = some (PySem.W.instObj C dx) ∧
      ∃ mA, h.Ns1 dx mA ∧ (∀ f, RelO (fs.lookup f) (mA f)) ∧ PySem.Within mA (fs.map (·.1))
  | .own _ => ∃ o, h.get? a = some o
  | .xd fs => ∃ mA, h.Ns1 a mA ∧ ∀ f, RelO (fs.lookup f) (mA f)
  | .rng lo hi => ∃ t u v, h.get? a = some { cls := .type "range", data := .fields #[.int lo t, .int hi u, .int 1 v] }
  | .frz o u => h.get? a = some o ∧ ObjOk H h a u
  | .tbl ps => h.get? a = some { cls := .none, data := .fields ps }
  | .met f x => h.get? a = some (PySem.W.methodObj (.ref f) (.ref x))
  | .ext φ => φ h ∧ (∃ o, h.get? a = some o) ∧ ∀ h1 h2 : Heap, φ h1 → (∀ o, h1.get? a = some o → h2.get? a = some o) → φ h2
def HOk (H : Hp) (h : Heap) : Prop := ∀ a o, H a = some o → ObjOk P w H h a o
end
section
variable {P : Program} {w : World} {H H' : Hp} {h h' : Heap} {a : Addr} {o : HO}
theorem ObjOk.lt (x : ObjOk P w H h a o) : a < h.objs.size := by
  cases o with
  | lst xs => obtain ⟨_, _, _, _, e⟩ := x; exact Heap.lt_size e
  | tup xs => obtain ⟨_, _, _, p⟩ := x; exact p.lt
  | dK kvs => obtain ⟨_, _, _, _, o, _, _, e, _⟩ := x; exact Heap.lt_size e
  | dT kvs => obtain ⟨_, _, _, _, o, _, _, e, _⟩ := x; exact Heap.lt_size e
  | set S n => obtain ⟨o, _, _, _, e, _⟩ := x; exact Heap.lt_size e
  | ins C dx fs => obtain ⟨_, _, _, e, _⟩ := x; exact Heap.lt_size e
  | own y => obtain ⟨_, e⟩ := x; exact Heap.lt_size e
  | xd fs => obtain ⟨_, ⟨_, _, _, e, _⟩, _⟩ := x; exact Heap.lt_size e
  | rng lo hi => obtain ⟨_, _, _, e⟩ := x; exact Heap.lt_size e
  | frz ob u => obtain ⟨e, _⟩ := x; exact Heap.lt_size e
  | tbl ps => exact Heap.lt_size (show h.get? a = some _ from x)
  | met f y => exact Heap.lt_size (show h.get? a = some _ from x)
  | ext φ => obtain ⟨_, ⟨_, e⟩, _⟩ := x; exact Heap.lt_size e
theorem Paired.mapP {α β : Type} {F G : α → β → Prop} : ∀ {l₁ : List α} {l₂ : List β}, Paired F l₁ l₂ → (∀ a b, F a b → G a b) → Paired G l₁ l₂
  | _, _, .nil, _ => .nil
  | _, _, .cons r t, f => .cons (f _ _ r) (Paired.mapP t f)
theorem ObjOk.stay (x : ObjOk P w H h a o) (k : ∀ b u, (b = a ∨ H b = some (.own a)) → h.get? b = some u → h'.get? b = some u)
    (ho : ∀ b, H b = some (.own a) → H' b = some (.own a)) (ht : ∀ b xs, H b = some (.tup xs) → H' b = some (.tup xs)) : ObjOk P w H' h' a o := by
  induction o with
  | lst xs => obtain ⟨z, its, n, r, e⟩ := x; exact ⟨z, its, n, r, k _ _ (.inl rfl) e⟩
  | tup xs => obtain ⟨z, its, r, ob, e, c⟩ := x; exact ⟨z, its, r, ob, k _ _ (.inl rfl) e, c⟩
  | dK kvs => obtain ⟨z, y, vs, r, ob, es, ep, e, c⟩ := x; exact ⟨z, y, vs, r, ob, es, ep, k _ _ (.inl rfl) e, c⟩
  | dT kvs =>
    obtain ⟨z, y, xs, r, ob, es, ep, e, c⟩ := x
    exact ⟨z, y, xs, Paired.mapP r fun p q z => ⟨z.1, ht _ _ z.2.1, z.2.2⟩, ob, es, ep, k _ _ (.inl rfl) e, c⟩
  | set S n => obtain ⟨ob, es, ep, t, e, c⟩ := x; exact ⟨ob, es, ep, t, k _ _ (.inl rfl) e, c⟩
  | ins C dx fs =>
    obtain ⟨d, z, ne, e, mA, ⟨od, es, ep, e2, c⟩, r⟩ := x
    exact ⟨ho _ d, z, ne, k _ _ (.inl rfl) e, mA, ⟨od, es, ep, k _ _ (.inr d) e2, c⟩, r⟩
  | own y => obtain ⟨ob, e⟩ := x; exact ⟨ob, k _ _ (.inl rfl) e⟩
  | xd fs => obtain ⟨mA, ⟨od, es, ep, e, c⟩, r⟩ := x; exact ⟨mA, ⟨od, es, ep, k _ _ (.inl rfl) e, c⟩, r⟩
  | rng lo hi => obtain ⟨t, u, v, e⟩ := x; exact ⟨t, u, v, k _ _ (.inl rfl) e⟩
  | frz ob u ih => obtain ⟨e, q⟩ := x; exact ⟨k _ _ (.inl rfl) e, ih q⟩
  | tbl ps =>
    have e : h.get? a = some { cls := .none, data := .fields ps } := x
    show h'.get? a = some { cls := .none, data := .fields ps }
    exact k a _ (.inl rfl) e
  | met f y =>
    have e : h.get? a = some (PySem.W.methodObj (.ref f) (.ref y)) := x
    show h'.get? a = some (PySem.W.methodObj (.ref f) (.ref y))
    exact k a _ (.inl rfl) e
  | ext φ => obtain ⟨p, ⟨o, e⟩, st⟩ := x; exact ⟨st _ _ p fun o q => k _ _ (.inl rfl) q, ⟨o, k _ _ (.inl rfl) e⟩, st⟩
theorem HOk.lt (x : HOk P w H h) (e : H a = some o) : a < h.objs.size := (x a o e).lt
theorem HOk.fresh (x : HOk P w H h) (e : h.objs.size ≤ a) : H a = none := by
  cases q : H a with
  | none => rfl
  | some u => exact absurd (Nat.lt_of_lt_of_le (x.lt q) e) (Nat.lt_irrefl _)
theorem HOk.kept (x : HOk P w H h) (k : ∀ b u, h.get? b = some u → h'.get? b = some u) : HOk P w H h' := fun a o e =>
  (x a o e).stay (fun b u _ q => k b u q) (fun _ q => q) fun _ _ q => q
theorem HOk.laid (x : HOk P w H h) (k : ∀ b u, h.get? b = some u → h'.get? b = some u) (hp : h.objs.size ≤ a) (new : ObjOk P w (upd H a o) h' a o) : HOk P w (upd H a o) h' := fun b u e => by
  have hn := x.fresh hp
  by_cases hb : b = a
  · subst hb; rw [upd_same] at e; cases e; exact new
  · rw [upd_ne hb] at e
    exact (x b u e).stay (fun c v _ q => k c v q) (fun c q => by rw [upd_ne (ne_of_none q hn)]; exact q) fun c xs q => by rw [upd_ne (ne_of_none q hn)]; exact q
end
def Rd (H : Hp) (a : Addr) (u : HO) : Prop := H a = some u ∨ ∃ o, H a = some (.frz o u)
theorem Rd.ok {P : Program} {w : World} {H : Hp} {h : Heap} {a : Addr} {u : HO} (r : Rd H a u) (x : HOk P w H h) : ObjOk P w H h a u := by
  rcases r with r | ⟨o, r⟩
  · exact x a u r
  · obtain ⟨_, q⟩ := x a _ r
    exact q
def Mut : Option HO → Prop
  | some (.lst _) => True
  | some (.dK _) => True
  | some (.dT _) => True
  | some (.set _ _) => True
  | some (.ins _ _ _) => True
  | some (.ext _) => True
  | _ => False
section
variable {P : Program} {w : World} {H : Hp} {h h' : Heap} {x e : Addr} {o' : HO}
theorem HOk.write (ok : HOk P w H h) (mu : Mut (H x)) (he : e = x ∨ H e = some (.own x)) (k : ∀ b u, b ≠ e → h.get? b = some u → h'.get? b = some u) (heo : ∃ u, h'.get? e = some u)
    (new : ObjOk P w (upd H x o') h' x o') : HOk P w (upd H x o') h' := fun b u q => by
  have nown : ∀ c y, H c = some (.own y) → c ≠ x := fun c y r z => by subst z; rw [r] at mu; exact mu
  have ntup : ∀ c xs, H c = some (.tup xs) → c ≠ x := fun c xs r z => by subst z; rw [r] at mu; exact mu
  by_cases hb : b = x
  · subst hb; rw [upd_same] at q; cases q; exact new
  · rw [upd_ne hb] at q
    by_cases hbe : b = e
    · have q' : H b = some (.own x) := by
        rcases he with z | z
        · exact absurd (hbe.trans z) hb
        · rw [hbe]; exact z
      rw [q] at q'; cases q'
      obtain ⟨v, hv⟩ := heo
      exact ⟨v, by rw [hbe]; exact hv⟩
    · refine (ok b u q).stay (fun c v hc r => k c v ?_ r) (fun c r => by rw [upd_ne (nown c b r)]; exact r) fun c xs r => by rw [upd_ne (ntup c xs r)]; exact r
      rcases hc with rfl | hc
      · exact hbe
      · rintro rfl
        rcases he with z | z
        · exact nown c b hc z
        · rw [hc] at z; cases z; exact hb rfl
end
structure Un (fs ex : List Addr) (H H' : Hp) (h h' : Heap) : Prop where
  keep : ∀ b o, h.get? b = some o → H b = none → b ∉ fs → b ∉ ex → h'.get? b = some o
  slot : ∀ b o, h.get? b = some o → H b = none → b ∈ fs → b ∉ ex → ∃ sl, h'.get? b = some { o with slots := sl }
  free : ∀ b o, h.get? b = some o → H b = none → b ∉ ex → H' b = none
  there : ∀ b o, h.get? b = some o → b ∉ ex → ∃ o', h'.get? b = some o'
  tups : ∀ b xs, H b = some (.tup xs) → H' b = some (.tup xs)
  frzs : ∀ b o u, H b = some (.frz o u) → H' b = some (.frz o u)
  tbls : ∀ b ps, H b = some (.tbl ps) → ∃ more, H' b = some (.tbl (ps ++ more))
section
variable {fs fs' ex ex' : List Addr} {H H1 H2 : Hp} {h h1 h2 h' : Heap} {a x e : Addr} {o : HO}
theorem Un.any (u : Un fs ex H H1 h h1) {b : Addr} {ob : Obj} (q : h.get? b = some ob) (n : H b = none) (hx : b ∉ ex) : ∃ sl, h1.get? b = some { ob with slots := sl } := by
  by_cases hb : b ∈ fs
  · exact u.slot b ob q n hb hx
  · exact ⟨ob.slots, u.keep b ob q n hb hx⟩
theorem Un.kept (k : ∀ b u, h.get? b = some u → h'.get? b = some u) : Un fs ex H H h h' :=
  ⟨fun b ob q _ _ _ => k b ob q, fun b ob q _ _ _ => ⟨ob.slots, k b ob q⟩, fun _ _ _ n _ => n, fun b ob q _ => ⟨ob, k b ob q⟩, fun _ _ q => q, fun _ _ _ q => q, fun _ ps q => ⟨#[], by rw [q]; simp⟩⟩
theorem Un.refl : Un fs ex H H h h := Un.kept fun _ _ q => q
theorem Un.laid (k : ∀ b u, h.get? b = some u → h'.get? b = some u) (hp : h.objs.size ≤ a) (hn : H a = none) : Un fs ex H (upd H a o) h h' where
  keep := fun b u q _ _ _ => k b u q
  slot := fun b u q _ _ _ => ⟨u.slots, k b u q⟩
  free := fun b u q n _ => by rw [upd_ne (Nat.ne_of_lt (Nat.lt_of_lt_of_le (Heap.lt_size q) hp))]; exact n
  there := fun b u q _ => ⟨u, k b u q⟩
  tups := fun b xs q => by rw [upd_ne (ne_of_none q hn)]; exact q
  frzs := fun b u xs q => by rw [upd_ne (ne_of_none q hn)]; exact q
  tbls := fun b ps q => ⟨#[], by rw [upd_ne (ne_of_none q hn), q]; simp⟩
theorem Un.write (mu : Mut (H x)) (he : e = x ∨ H e = some (.own x)) (k : ∀ b u, b ≠ e → h.get? b = some u → h'.get? b = some u) (heo : ∃ u, h'.get? e = some u) : Un fs ex H (upd H x o) h h' := by
  have hx : ∀ b, H b = none → b ≠ x := fun b n z => by subst z; rw [n] at mu; exact mu
  have hb : ∀ b, H b = none → b ≠ e := fun b n z => by
    subst z
    rcases he with r | r
    · exact hx b n r
    · rw [n] at r; cases r
  have hm : ∀ b u, H b = some u → ¬ Mut (some u) → b ≠ x := fun b u q nm z => by subst z; rw [q] at mu; exact nm mu
  refine ⟨fun b u q n _ _ => k b u (hb b n) q, fun b u q n _ _ => ⟨u.slots, k b u (hb b n) q⟩, fun b u q n _ => by rw [upd_ne (hx b n)]; exact n, fun b u q _ => ?_,
    fun b xs q => by rw [upd_ne (hm b _ q fun z => z)]; exact q, fun b u xs q => by rw [upd_ne (hm b _ q fun z => z)]; exact q, fun b ps q => ⟨#[], by rw [upd_ne (hm b _ q fun z => z), q]; simp⟩⟩
  by_cases hbe : b = e
  · subst hbe; exact heo
  · exact ⟨u, k b u hbe q⟩
end
def trk (h : Heap) (H : Hp) : List Addr := (List.range h.objs.size).filter fun a => (H a).isSome
def hidT (h : Heap) (H : Hp) : Heap := PySem.W.hideAll h (trk h H)
theorem hidT_size (h : Heap) (H : Hp) : (hidT h H).objs.size = h.objs.size := PySem.W.hideAll_size _ _
theorem hidT_get {h : Heap} {H : Hp} {b : Addr} {o : Obj} (e : h.get? b = some o) (n : H b = none) : (hidT h H).get? b = some o :=
  PySem.W.hideAll_get _ e fun hm => by
    have q : (H b).isSome = true := (List.mem_filter.mp hm).2
    rw [n] at q; simp at q
theorem of_hidT {h : Heap} {H : Hp} {b : Addr} {o : Obj} (e : (hidT h H).get? b = some o) : h.get? b = some o ∧ H b = none := by
  have e' : h.get? b = some o := PySem.W.of_hideAll (trk h H) e
  refine ⟨e', ?_⟩
  cases q : H b with
  | none => rfl
  | some x =>
    have hm : b ∈ trk h H := List.mem_filter.mpr ⟨List.mem_range.mpr (Heap.lt_size e'), by simp [q]⟩
    have z : (hidT h H).get? b = none := PySem.W.hideAll_none (trk h H) hm
    rw [z] at e; cases e
end L2
namespace L2
open PySem PySem.Spec PyProof.Rows
structure Mod (K : PySem.W.Frag) (mg : Str → Option Value) (base : Heap) : Prop where
  kin : K.In base
  glob : base.Ns mainGlobals mg
  blt : ∃ mb, base.Ns builtinsNs mb ∧ ∀ x : Str, x ≠ "__name__" → mb x = bootBuiltins x
  nolimit : base.NoLimit
structure Cx where
  prog : Program
  w : World
  K : PySem.W.Frag
  mg : Str → Option Value
  base : Heap
  A : Around
  N : List Str
  s_0 : Shared
  H_0 : Hp
  env : Env
  outer : List Env
  stack : List Env
  ex : List Addr
  fn : Str → Bool
  calm : Bool
  pn : List (Addr × Obj)
  xe : Value → Shared → Prop
def frs (l : List Env) : List Addr := l.filterMap (·.frame)
abbrev Cx.fs (X : Cx) : List Addr := frs X.outer
def Vis (sc : Scope) (x : Str) : Prop := sc.names.lookup x = some .local ∨ sc.names.lookup x = some .cell ∨ sc.names.lookup x = some .free
def Loc (sc : Scope) (x : Str) : Prop := sc.names.lookup x = some .local ∨ sc.names.lookup x = some .cell
def Look (env : Env) (h : Heap) (m : Str → Option Value) (x : Str) (u : Value) : Prop :=
  (env.kindOf x = some .local ∧ m x = some u) ∨ ((env.kindOf x = some .cell ∨ env.kindOf x = some .free) ∧ ∃ c, env.cells.lookup x = some c ∧ h.IsCell c (some u))
structure Cx.Ok (X : Cx) : Prop where
  mod : Mod X.K X.mg X.base
  kind : X.env.scope.kind = .function
  glob : X.env.globals = mainGlobals
  blt : X.env.builtins = builtinsNs
  above : X.s_0.heap.objs.size ≤ X.env.locals
  inj : ∀ x y c, X.env.cells.lookup x = some c → X.env.cells.lookup y = some c → x = y
  has : ∀ x, (X.env.kindOf x = some .cell ∨ X.env.kindOf x = some .free) → ∃ c, X.env.cells.lookup x = some c
  cab : ∀ x c, X.fn x = true → X.env.cells.lookup x = some c → X.s_0.heap.objs.size ≤ c
  hd : X.calm = true → X.A.handled = none
  frames : X.A.frames = some X.stack
  stk : X.stack = X.outer ∨ (X.stack = X.env :: X.outer ∧ X.env.frame = some X.env.locals)
  exf : ∀ b ∈ X.ex, b ≠ X.env.locals ∧ ∀ x c, X.env.cells.lookup x = some c → c ≠ b
  bs : ∀ b o, X.base.get? b = some o → X.s_0.heap.get? b = some o ∧ X.H_0 b = none
  bsz : X.base.objs.size ≤ X.s_0.heap.objs.size
  noex : ∀ b o, X.base.get? b = some o → b ∉ X.ex
  exfs : ∀ b ∈ X.ex, b ∉ X.fs
  funs : X.s_0.heap.FunFrames X.base X.outer
  frf : ∀ b ∈ X.fs, X.H_0 b = none
structure Inv (X : Cx) (pins : List (Addr × Obj)) (σ : List (Option V)) (H : Hp) (s : Shared) : Prop where
  ok : X.Ok
  os : s.os = X.s_0.os
  bare : AllBare s.gens
  base : Un X.fs X.ex X.H_0 H X.s_0.heap s.heap
  loc : ∃ m, s.heap.Ns X.env.locals m ∧ ∀ (i : Nat) (x : Str) (v : V), X.N[i]? = some x → σ[i]? = some (some v) → Vis X.env.scope x → ∃ u, RelV v u ∧ Look X.env s.heap m x u
  cell : ∀ x c, X.env.cells.lookup x = some c → ∃ v, s.heap.IsCell c v
  free : H X.env.locals = none
  freeC : ∀ x c, X.env.cells.lookup x = some c → H c = none
  pin : ∀ p ∈ X.pn ++ pins, s.heap.get? p.1 = some p.2 ∧ H p.1 = none ∧ p.1 ≠ X.env.locals ∧ p.1 ∉ X.fs ∧ ∀ v, p.2.data ≠ .cell v
  hok : HOk X.prog X.w H s.heap
  len : σ.length = X.N.length
section
variable {X : Cx} {pins : List (Addr × Obj)} {σ : List (Option V)} {H H' : Hp} {s : Shared} {h' : Heap}
theorem Cx.Ok.nofr (ok : X.Ok) {b : Addr} {o : Obj} (e : X.base.get? b = some o) : b ∉ X.fs := fun hb => by
  have := (ok.funs.mem hb).1
  rw [e] at this; cases this
theorem Inv.bs (I : Inv X pins σ H s) : ∀ b o, X.base.get? b = some o → s.heap.get? b = some o ∧ H b = none := fun b o e =>
  ⟨I.base.keep b o (I.ok.bs b o e).1 (I.ok.bs b o e).2 (I.ok.nofr e) (I.ok.noex b o e), I.base.free b o (I.ok.bs b o e).1 (I.ok.bs b o e).2 (I.ok.noex b o e)⟩
theorem Inv.bk (I : Inv X pins σ H s) : ∀ b o, X.base.get? b = some o → s.heap.get? b = some o := fun b o e => (I.bs b o e).1
theorem Inv.mod (I : Inv X pins σ H s) : Mod X.K X.mg X.base := I.ok.mod
theorem Inv.kIn (I : Inv X pins σ H s) : X.K.In s.heap := I.ok.mod.kin.keeps I.bk
theorem Inv.fr (I : Inv X pins σ H s) : ∃ m, Fr X.base X.env.locals s.heap m :=
  let ⟨m, hn, _⟩ := I.loc
  ⟨m, hn, I.bk, Nat.le_trans I.ok.bsz I.ok.above⟩
theorem Inv.lt (I : Inv X pins σ H s) : X.env.locals < s.heap.objs.size := let ⟨_, hn, _⟩ := I.loc; hn.lt
theorem Inv.sz (I : Inv X pins σ H s) : X.s_0.heap.objs.size ≤ s.heap.objs.size := Nat.le_trans I.ok.above (Nat.le_of_lt I.lt)
theorem Inv.nofs (I : Inv X pins σ H s) {a : Addr} (h : s.heap.objs.size ≤ a) : a ∉ X.fs := fun hb => by
  obtain ⟨_, o, ho, _⟩ := I.ok.funs.mem hb
  exact absurd (Nat.lt_of_lt_of_le (Heap.lt_size ho) (Nat.le_trans I.sz h)) (Nat.lt_irrefl _)
theorem Inv.cne (I : Inv X pins σ H s) : ∀ x c, X.env.cells.lookup x = some c → c ≠ X.env.locals := fun x c e z => by
  obtain ⟨v, o, ho, hd⟩ := I.cell x c e
  obtain ⟨m, ⟨o', es, ep, ho', hd', _⟩, _⟩ := I.loc
  rw [z, ho'] at ho; cases ho; rw [hd'] at hd; cases hd
theorem Inv.funs (I : Inv X pins σ H s) : s.heap.FunFrames X.base X.outer := by
  have all : ∀ (l : List Env), (∀ b ∈ frs l, b ∈ X.fs) → X.s_0.heap.FunFrames X.base l → s.heap.FunFrames X.base l := by
    intro l
    induction l with
    | nil => intro _ _; trivial
    | cons env r ih =>
      intro hs hl
      obtain ⟨hk, ⟨L, o, hf, hn, ho, hd⟩, hr⟩ := hl
      have hL : L ∈ X.fs := hs L (by unfold frs; rw [List.filterMap_cons, hf]; exact List.mem_cons_self)
      obtain ⟨sl, e⟩ := I.base.slot L o ho (I.ok.frf L hL) hL fun z => I.ok.exfs L z hL
      exact ⟨hk, ⟨L, _, hf, hn, e, hd⟩, ih (fun b hb => hs b (by unfold frs; rw [List.filterMap_cons, hf]; exact List.mem_cons_of_mem _ hb)) hr⟩
  exact all X.outer (fun _ hb => hb) I.ok.funs
theorem Inv.stack (I : Inv X pins σ H s) : s.heap.FunFrames X.base X.stack := by
  rcases I.ok.stk with e | ⟨e, hf⟩
  · rw [e]; exact I.funs
  · rw [e]
    obtain ⟨m, hn, _⟩ := I.loc
    refine .cons (by rw [I.ok.kind]; decide) hf hn ?_ I.funs
    exact Heap.get?_none_of_le (Nat.le_trans I.ok.bsz I.ok.above)
theorem Inv.stkSub (I : Inv X pins σ H s) : ∀ b ∈ frs X.stack, b ∈ X.env.locals :: X.fs := fun b hb => by
  rcases I.ok.stk with e | ⟨e, hf⟩
  · rw [e] at hb; exact List.mem_cons_of_mem _ hb
  · rw [e] at hb
    unfold frs at hb
    rw [List.filterMap_cons, hf] at hb
    exact hb
theorem Inv.stkFree (I : Inv X pins σ H s) : ∀ b ∈ frs X.stack, H b = none := fun b hb => by
  rcases List.mem_cons.mp (I.stkSub b hb) with e | hb
  · rw [e]; exact I.free
  · obtain ⟨_, o, ho, _⟩ := I.ok.funs.mem hb
    exact I.base.free b o ho (I.ok.frf b hb) fun z => I.ok.exfs b z hb
theorem Inv.step {g' : Array GenState} {t' : Nat} {d' : Drawn} {ch : List Addr} (I : Inv X pins σ H s)
    (hch : ∀ b ∈ ch, (b ∈ X.ex ∨ X.s_0.heap.objs.size ≤ b) ∧ b ≠ X.env.locals ∧ (∀ x c, X.env.cells.lookup x = some c → c ≠ b) ∧ ∀ p ∈ X.pn ++ pins, p.1 ≠ b)
    (keep : ∀ b o, b ≠ X.env.locals → b ∉ X.fs → b ∉ ch → s.heap.get? b = some o → H b = none → h'.get? b = some o)
    (slot : ∀ b o, b ≠ X.env.locals → b ∈ X.fs → b ∉ ch → s.heap.get? b = some o → H b = none → ∃ sl, h'.get? b = some { o with slots := sl }) (free : ∀ b o, b ∉ ch → s.heap.get? b = some o → H b = none → H' b = none)
    (there : ∀ b o, b ∉ ch → s.heap.get? b = some o → ∃ o', h'.get? b = some o')
    (tups : ∀ b xs, H b = some (.tup xs) → H' b = some (.tup xs)) (frzs : ∀ b o u, H b = some (.frz o u) → H' b = some (.frz o u)) (tbls : ∀ b ps, H b = some (.tbl ps) → ∃ more, H' b = some (.tbl (ps ++ more)))
    (ns : ∀ m, s.heap.Ns X.env.locals m → h'.Ns X.env.locals m) (hok : HOk X.prog X.w H' h') (hg : AllBare g') :
    Inv X pins σ H' { s with heap := h', gens := g', drawn := d', toks := t' } := by
  have neL : ∀ b o, X.s_0.heap.get? b = some o → b ≠ X.env.locals := fun b o e => Nat.ne_of_lt (Nat.lt_of_lt_of_le (Heap.lt_size e) I.ok.above)
  have neC : ∀ b o, X.s_0.heap.get? b = some o → b ∉ X.ex → b ∉ ch := fun b o e hx hb => by
    rcases (hch b hb).1 with z | z
    · exact hx z
    · exact absurd (Nat.lt_of_lt_of_le (Heap.lt_size e) z) (Nat.lt_irrefl _)
  have cellK : ∀ x c, X.env.cells.lookup x = some c → ∀ v, s.heap.IsCell c v → h'.IsCell c v := fun x c e v ⟨o, ho, hd⟩ => by
    have nch : c ∉ ch := fun z => (hch c z).2.2.1 x c e rfl
    by_cases hc : c ∈ X.fs
    · obtain ⟨sl, q⟩ := slot c o (I.cne x c e) hc nch ho (I.freeC x c e)
      exact ⟨_, q, hd⟩
    · exact ⟨o, keep c o (I.cne x c e) hc nch ho (I.freeC x c e), hd⟩
  refine ⟨I.ok, I.os, hg, ⟨fun b o e n hb hx => ?_, fun b o e n hb hx => ?_, fun b o e n hx => ?_, fun b o e hx => ?_, fun b xs e => tups b xs (I.base.tups b xs e), fun b o xs e => frzs b o xs (I.base.frzs b o xs e), fun b ps e => ?_⟩, ?_, fun x c e => ?_, ?_, fun x c e => ?_, fun p hp => ?_, hok, I.len⟩
  · exact keep b o (neL b o e) hb (neC b o e hx) (I.base.keep b o e n hb hx) (I.base.free b o e n hx)
  · obtain ⟨sl, e1⟩ := I.base.slot b o e n hb hx
    obtain ⟨sl', e2⟩ := slot b _ (neL b o e) hb (neC b o e hx) e1 (I.base.free b o e n hx)
    exact ⟨sl', e2⟩
  · obtain ⟨o', e1⟩ := I.base.there b o e hx
    exact free b o' (neC b o e hx) e1 (I.base.free b o e n hx)
  · obtain ⟨o', e1⟩ := I.base.there b o e hx
    exact there b o' (neC b o e hx) e1
  · obtain ⟨m1, e1⟩ := I.base.tbls b ps e
    obtain ⟨m2, e2⟩ := tbls b _ e1
    exact ⟨m1 ++ m2, by rw [e2, Array.append_assoc]⟩
  · obtain ⟨m, hn, hl⟩ := I.loc
    refine ⟨m, ns m hn, fun i x v e1 e2 e3 => ?_⟩
    obtain ⟨u, r, l⟩ := hl i x v e1 e2 e3
    refine ⟨u, r, ?_⟩
    rcases l with l | ⟨k, c, e, z⟩
    · exact .inl l
    · exact .inr ⟨k, c, e, cellK x c e _ z⟩
  · obtain ⟨v, z⟩ := I.cell x c e
    exact ⟨v, cellK x c e v z⟩
  · obtain ⟨m, ⟨o, _, _, ho, _⟩, _⟩ := I.loc
    exact free _ o (fun z => (hch _ z).2.1 rfl) ho I.free
  · obtain ⟨v, o, ho, hd⟩ := I.cell x c e
    exact free c o (fun z => (hch c z).2.2.1 x c e rfl) ho (I.freeC x c e)
  · obtain ⟨e, n, ne, nf, d⟩ := I.pin p hp
    have nch : p.1 ∉ ch := fun z => (hch p.1 z).2.2.2 p hp rfl
    exact ⟨keep p.1 p.2 ne nf nch e n, free p.1 p.2 nch e n, ne, nf, d⟩
theorem Inv.un {t' : Nat} (I : Inv X pins σ H s) (u : Un X.fs [] H H' s.heap h') (hok : HOk X.prog X.w H' h') : Inv X pins σ H' { s with heap := h', toks := t' } := by
  obtain ⟨m, ⟨o, es, ep, ho, r⟩, _⟩ := id I.loc
  obtain ⟨sl, hL⟩ := u.any ho I.free (by simp)
  exact I.step (g' := s.gens) (d' := s.drawn) (ch := []) (fun _ z => nomatch z) (fun b o _ hb _ e n => u.keep b o e n hb (by simp)) (fun b o _ hb _ e n => u.slot b o e n hb (by simp)) (fun b o _ e n => u.free b o e n (by simp)) (fun b o _ e => u.there b o e (by simp)) u.tups u.frzs u.tbls (fun m' hm => by
    obtain ⟨o', es', ep', ho', r'⟩ := hm
    rw [ho] at ho'; cases ho'
    exact ⟨_, es', ep', hL, r'⟩) hok I.bare
theorem Inv.call {g' : Array GenState} {t' : Nat} {d' : Drawn} {ch : List Addr} (I : Inv X pins σ H s) (u : Un (frs X.stack) ch H H' s.heap h') (hok : HOk X.prog X.w H' h') (hg : AllBare g')
    (hch : ∀ b ∈ ch, (b ∈ X.ex ∨ X.s_0.heap.objs.size ≤ b) ∧ b ≠ X.env.locals ∧ (∀ x c, X.env.cells.lookup x = some c → c ≠ b) ∧ ∀ p ∈ X.pn ++ pins, p.1 ≠ b) :
    Inv X pins σ H' { s with heap := h', gens := g', drawn := d', toks := t' } := by
  obtain ⟨m, ⟨o, es, ep, ho, r⟩, _⟩ := id I.loc
  obtain ⟨sl, hL⟩ := u.any ho I.free fun z => (hch _ z).2.1 rfl
  exact I.step (ch := ch) hch (fun b o hL hb hc e n => u.keep b o e n (fun z => (List.mem_cons.mp (I.stkSub b z)).elim hL hb) hc) (fun b o _ _ hc e n => u.any e n hc) (fun b o hc e n => u.free b o e n hc) (fun b o hc e => u.there b o e hc) u.tups u.frzs u.tbls (fun m' hm => by
    obtain ⟨o', es', ep', ho', r'⟩ := hm
    rw [ho] at ho'; cases ho'
    exact ⟨_, es', ep', hL, r'⟩) hok hg
theorem Inv.turned {t' : Nat} {it : Addr} (I : Inv X pins σ H s) (k : ∀ b o, b ≠ it → s.heap.get? b = some o → h'.get? b = some o) (hn : H it = none) (hL : it ≠ X.env.locals)
    (h1 : it ∈ X.ex ∨ X.s_0.heap.objs.size ≤ it) (h2 : ∀ x c, X.env.cells.lookup x = some c → c ≠ it) (h3 : ∀ p ∈ X.pn ++ pins, p.1 ≠ it) : Inv X pins σ H { s with heap := h', toks := t' } := by
  have nit : ∀ b u, H b = some u → b ≠ it := fun b u e z => by rw [z, hn] at e; cases e
  refine I.step (g' := s.gens) (d' := s.drawn) (ch := [it]) (fun b hb => ?_) (fun b o _ _ hc e _ => k b o (fun z => hc (by simp [z])) e) (fun b o _ _ hc e _ => ⟨o.slots, k b o (fun z => hc (by simp [z])) e⟩) (fun _ _ _ _ n => n)
    (fun b o hc e => ⟨o, k b o (fun z => hc (by simp [z])) e⟩) (fun _ _ e => e) (fun _ _ _ e => e) (fun b ps e => ⟨#[], by rw [e]; simp⟩) (fun m hm => ?_) (fun b u e => ?_) I.bare
  · have e : b = it := by simpa using hb
    subst e
    exact ⟨h1, hL, h2, h3⟩
  · obtain ⟨o, es, ep, ho, r⟩ := hm
    exact ⟨o, es, ep, k _ o (Ne.symm hL) ho, r⟩
  · refine (I.hok b u e).stay (fun c v hc q => k c v ?_ q) (fun _ q => q) fun _ _ q => q
    rcases hc with z | z
    · rw [z]; exact nit b u e
    · exact nit c _ z
theorem Inv.tok (I : Inv X pins σ H s) (t : Nat) : Inv X pins σ H { s with toks := t } := I.un (h' := s.heap) (t' := t) Un.refl I.hok
theorem Inv.kept {t' : Nat} (I : Inv X pins σ H s) (k : ∀ b u, s.heap.get? b = some u → h'.get? b = some u) : Inv X pins σ H { s with heap := h', toks := t' } := I.un (Un.kept k) (I.hok.kept k)
theorem Inv.laid {a : Addr} {o : HO} {t' : Nat} (I : Inv X pins σ H s) (k : ∀ b u, s.heap.get? b = some u → h'.get? b = some u) (hp : s.heap.objs.size ≤ a) (new : ObjOk X.prog X.w (upd H a o) h' a o) :
    Inv X pins σ (upd H a o) { s with heap := h', toks := t' } := I.un (Un.laid k hp (I.hok.fresh hp)) (I.hok.laid k hp new)
theorem Inv.write {x e : Addr} {o : HO} {t' : Nat} (I : Inv X pins σ H s) (mu : Mut (H x)) (he : e = x ∨ H e = some (.own x)) (k : ∀ b u, b ≠ e → s.heap.get? b = some u → h'.get? b = some u) (heo : ∃ u, h'.get? e = some u)
    (new : ObjOk X.prog X.w (upd H x o) h' x o) : Inv X pins σ (upd H x o) { s with heap := h', toks := t' } := I.un (Un.write mu he k heo) (I.hok.write mu he k heo new)
theorem Inv.weak {σ' : List (Option V)} (I : Inv X pins σ H s) (hl : σ'.length = σ.length) (w : ∀ (i : Nat) v, σ'[i]? = some (some v) → σ[i]? = some (some v)) : Inv X pins σ' H s :=
  ⟨I.ok, I.os, I.bare, I.base, let ⟨m, hn, hl'⟩ := I.loc; ⟨m, hn, fun i x v e1 e2 e3 => hl' i x v e1 (w i v e2) e3⟩, I.cell, I.free, I.freeC, I.pin, I.hok, hl.trans I.len⟩
theorem Inv.pins_of {pins' : List (Addr × Obj)} (I : Inv X pins σ H s) (h : ∀ p ∈ pins', s.heap.get? p.1 = some p.2 ∧ H p.1 = none ∧ p.1 ≠ X.env.locals ∧ p.1 ∉ X.fs ∧ ∀ v, p.2.data ≠ .cell v) : Inv X pins' σ H s :=
  ⟨I.ok, I.os, I.bare, I.base, I.loc, I.cell, I.free, I.freeC, fun p hp => (List.mem_append.mp hp).elim (fun z => I.pin p (List.mem_append_left _ z)) (h p), I.hok, I.len⟩
theorem nodup_ix {N : List Str} (hN : N.Nodup) {i j : Nat} {x : Str} (a : N[i]? = some x) (b : N[j]? = some x) : i = j := by
  obtain ⟨h1, e1⟩ := List.getElem?_eq_some_iff.mp a
  obtain ⟨h2, e2⟩ := List.getElem?_eq_some_iff.mp b
  exact (List.getElem_inj hN).mp (e1.trans e2.symm)
theorem store_ok2 {M : Model} {A : Around} {E : Value → Shared → Prop} {i : Nat} {x : Str} {v : V} {u : Value} {Q : Unit → Shared → Prop} (I : Inv X pins σ H s) (hN : X.N.Nodup) (hi : X.N[i]? = some x) (hx : Loc X.env.scope x) (r : RelV v u)
    (h : ∀ s', Inv X pins (σ.set i (some v)) H s' → (∃ a, Heap.SameBut a s.heap s'.heap ∧ (a = X.env.locals ∨ X.env.cells.lookup x = some a)) → Q () s') (hf : X.fn x = true ∨ X.env.scope.names.lookup x = some .local := by first | exact .inl rfl | exact .inr rfl | assumption) : wpAny M A (storeName X.env x u) Q E s := by
  obtain ⟨m, hn, hl⟩ := id I.loc
  have hcls : (X.env.scope.kind == .class || (X.env.scope.kind == .module && X.env.locals != X.env.globals)) = false := by rw [I.ok.kind]; rfl
  have hiσ : i < σ.length := by rw [I.len]; exact (List.getElem?_eq_some_iff.mp hi).1
  have cne := I.cne
  have tracked : ∀ {a : Addr} {h' : Heap}, (∃ o, s.heap.get? a = some o ∧ H a = none) → Heap.SameBut a s.heap h' → HOk X.prog X.w H h' := fun {a h'} ha hs b ob e => by
    obtain ⟨_, _, hfree⟩ := ha
    refine (I.hok b ob e).stay (fun c w' hc q => (hs.2 c ?_).trans q) (fun _ q => q) fun _ _ q => q
    rintro rfl
    rcases hc with rfl | hc
    · rw [hfree] at e; cases e
    · rw [hfree] at hc; cases hc
  rcases hx with hk | hk
  · refine wpAny_storeName_local hk hn (fun h' hn' hs => ?_) hcls
    obtain ⟨oL, _, _, hoL, _⟩ := id hn
    refine h _ ⟨I.ok, I.os, I.bare, ⟨fun b o e n hb hx => ?_, fun b o e n hb hx => ?_, I.base.free, fun b o e hx => ?_, I.base.tups, I.base.frzs, I.base.tbls⟩, ⟨_, hn', fun j y v' e1 e2 e3 => ?_⟩, fun y c e => ?_, I.free, I.freeC, fun p hp => ?_, tracked ⟨oL, hoL, I.free⟩ hs, by simpa using I.len⟩ ⟨_, hs, .inl rfl⟩
    · exact (hs.2 b (Nat.ne_of_lt (Nat.lt_of_lt_of_le (Heap.lt_size e) I.ok.above))).trans (I.base.keep b o e n hb hx)
    · obtain ⟨sl, e1⟩ := I.base.slot b o e n hb hx
      exact ⟨sl, (hs.2 b (Nat.ne_of_lt (Nat.lt_of_lt_of_le (Heap.lt_size e) I.ok.above))).trans e1⟩
    · obtain ⟨o', e1⟩ := I.base.there b o e hx
      exact ⟨o', (hs.2 b (Nat.ne_of_lt (Nat.lt_of_lt_of_le (Heap.lt_size e) I.ok.above))).trans e1⟩
    · by_cases hj : j = i
      · subst hj
        rw [hi] at e1; cases e1
        rw [List.getElem?_set_self hiσ] at e2
        cases e2
        exact ⟨u, r, .inl ⟨hk, by simp⟩⟩
      · rw [List.getElem?_set_ne (Ne.symm hj)] at e2
        obtain ⟨u', r', q⟩ := hl j y v' e1 e2 e3
        refine ⟨u', r', ?_⟩
        rcases q with ⟨k, e⟩ | ⟨k, c, e, z⟩
        · refine .inl ⟨k, ?_⟩
          have : y ≠ x := fun e => hj (nodup_ix hN e1 (e ▸ hi))
          simp [this, e]
        · exact .inr ⟨k, c, e, z.sameBut hs (cne y c e)⟩
    · obtain ⟨w', z⟩ := I.cell y c e
      exact ⟨w', z.sameBut hs (cne y c e)⟩
    · obtain ⟨e, n, ne, nf, d⟩ := I.pin p hp
      exact ⟨(hs.2 p.1 ne).trans e, n, ne, nf, d⟩
  · have hfn : X.fn x = true := by
      rcases hf with z | z
      · exact z
      · rw [z] at hk; cases hk
    obtain ⟨c, hc⟩ := I.ok.has x (.inl hk)
    obtain ⟨w', z⟩ := I.cell x c hc
    refine wpAny_storeName_cell I.ok.kind hk hc z (fun h' hc' hs => ?_)
    obtain ⟨oc, hoc, hocd⟩ := id z
    refine h { s with heap := h' } ⟨I.ok, I.os, I.bare, ⟨fun b o e n hb hx => ?_, fun b o e n hb hx => ?_, I.base.free, fun b o e hx => ?_, I.base.tups, I.base.frzs, I.base.tbls⟩, ⟨m, hn.sameBut hs (Ne.symm (cne x c hc)), fun j y v' e1 e2 e3 => ?_⟩, fun y c' e => ?_, I.free, I.freeC, fun p hp => ?_, tracked ⟨oc, hoc, I.freeC x c hc⟩ hs, by simpa using I.len⟩ ⟨c, hs, .inr hc⟩
    · exact (hs.2 b (Nat.ne_of_lt (Nat.lt_of_lt_of_le (Heap.lt_size e) (I.ok.cab x c hfn hc)))).trans (I.base.keep b o e n hb hx)
    · obtain ⟨sl, e1⟩ := I.base.slot b o e n hb hx
      exact ⟨sl, (hs.2 b (Nat.ne_of_lt (Nat.lt_of_lt_of_le (Heap.lt_size e) (I.ok.cab x c hfn hc)))).trans e1⟩
    · obtain ⟨o', e1⟩ := I.base.there b o e hx
      exact ⟨o', (hs.2 b (Nat.ne_of_lt (Nat.lt_of_lt_of_le (Heap.lt_size e) (I.ok.cab x c hfn hc)))).trans e1⟩
    · by_cases hj : j = i
      · subst hj
        rw [hi] at e1; cases e1
        rw [List.getElem?_set_self hiσ] at e2
        cases e2
        exact ⟨u, r, .inr ⟨.inl hk, c, hc, hc'⟩⟩
      · rw [List.getElem?_set_ne (Ne.symm hj)] at e2
        obtain ⟨u', r', q⟩ := hl j y v' e1 e2 e3
        refine ⟨u', r', ?_⟩
        rcases q with q | ⟨k, c', e, z'⟩
        · exact .inl q
        · refine .inr ⟨k, c', e, z'.sameBut hs ?_⟩
          rintro rfl
          exact hj (nodup_ix hN e1 (I.ok.inj _ _ _ e hc ▸ hi))
    · by_cases hcc : c' = c
      · subst hcc; exact ⟨_, hc'⟩
      · obtain ⟨w2, z2⟩ := I.cell y c' e
        exact ⟨w2, z2.sameBut hs hcc⟩
    · obtain ⟨e, n, ne, nf, d⟩ := I.pin p hp
      refine ⟨(hs.2 p.1 ?_).trans e, n, ne, nf, d⟩
      intro q
      rw [q, hoc] at e
      have q' : oc = p.2 := Option.some.inj e
      exact d w' (by rw [← q']; exact hocd)
theorem store_ok {M : Model} {A : Around} {E : Value → Shared → Prop} {i : Nat} {x : Str} {v : V} {u : Value} {Q : Unit → Shared → Prop} (I : Inv X pins σ H s) (hN : X.N.Nodup) (hi : X.N[i]? = some x) (hx : Loc X.env.scope x) (r : RelV v u)
    (h : ∀ s', Inv X pins (σ.set i (some v)) H s' → Q () s') (hf : X.fn x = true ∨ X.env.scope.names.lookup x = some .local := by first | exact .inl rfl | exact .inr rfl | assumption) : wpAny M A (storeName X.env x u) Q E s :=
  store_ok2 I hN hi hx r (fun s' I' _ => h s' I') hf
theorem Inv.call' {s' : Shared} {ch : List Addr} (I : Inv X pins σ H s) (ho : s'.os = s.os) (u : Un (frs X.stack) ch H H' s.heap s'.heap) (hok : HOk X.prog X.w H' s'.heap) (hg : AllBare s'.gens)
    (hch : ∀ b ∈ ch, (b ∈ X.ex ∨ X.s_0.heap.objs.size ≤ b) ∧ b ≠ X.env.locals ∧ (∀ x c, X.env.cells.lookup x = some c → c ≠ b) ∧ ∀ p ∈ X.pn ++ pins, p.1 ≠ b) : Inv X pins σ H' s' := by
  obtain ⟨h', g', d', t', o'⟩ := s'
  have e : o' = s.os := ho
  subst e
  exact I.call (g' := g') (t' := t') (d' := d') u hok hg hch
end
abbrev XK := Value → Option Addr → Hp → Prop
abbrev St := List (Option V)
abbrev VK := V → Hp → Prop
abbrev TE := St → Hp → VK → Prop
abbrev TT := St → Hp → (Bool → Hp → Prop) → Prop
abbrev TA := St → Hp → (List V → Hp → Prop) → Prop
structure Ends where
  nx : St → Hp → Prop
  rt : VK
  bk : St → Hp → Prop := fun _ _ => False
  ct : St → Hp → Prop := fun _ _ => False
abbrev TS := Ends → St → Hp → Prop
def EP (X : Cx) (pins : List (Addr × Obj)) (σ : St) (Q : VK) (u : Value) (s' : Shared) : Prop := ∃ v H', Inv X pins σ H' s' ∧ RelV v u ∧ Q v H'
def TP (X : Cx) (pins : List (Addr × Obj)) (σ : St) (Q : Bool → Hp → Prop) (b : Bool) (s' : Shared) : Prop := ∃ H', Inv X pins σ H' s' ∧ Q b H'
def AP (X : Cx) (pins : List (Addr × Obj)) (σ : St) (Q : List V → Hp → Prop) (us : List Value) (s' : Shared) : Prop := ∃ vs H', Inv X pins σ H' s' ∧ Vals vs us ∧ Q vs H'
def SP (X : Cx) (pins : List (Addr × Obj)) (D : Ends) (f : Flow) (s' : Shared) : Prop :=
  match f with
  | .next => ∃ σ' H', Inv X pins σ' H' s' ∧ D.nx σ' H'
  | .brk => ∃ σ' H', Inv X pins σ' H' s' ∧ D.bk σ' H'
  | .cont => ∃ σ' H', Inv X pins σ' H' s' ∧ D.ct σ' H'
  | .ret u => ∃ v σ' H', Inv X pins σ' H' s' ∧ RelV v u ∧ D.rt v H'
def PE (X : Cx) (e : Expr) (t : TE) : Prop :=
  ∀ (pins : List (Addr × Obj)) (s : Shared) (σ : St) (H : Hp) (Q : VK), Inv X pins σ H s → t σ H Q → wpAny (model X.prog X.w) X.A (eval e X.env) (EP X pins σ Q) X.xe s
def PT (X : Cx) (e : Expr) (t : TT) : Prop :=
  ∀ (pins : List (Addr × Obj)) (s : Shared) (σ : St) (H : Hp) (Q : Bool → Hp → Prop), Inv X pins σ H s → t σ H Q → wpAny (model X.prog X.w) X.A (isTrue e X.env (eval e X.env)) (TP X pins σ Q) X.xe s
def PW (X : Cx) (e : Expr) (t : TT) : Prop :=
  ∀ (whole : Sem Value) (pins : List (Addr × Obj)) (s : Shared) (σ : St) (H : Hp) (Q : Bool → Hp → Prop), Inv X pins σ H s → t σ H Q → wpAny (model X.prog X.w) X.A (isTrue e X.env whole) (TP X pins σ Q) X.xe s
theorem PW.pt {X : Cx} {e : Expr} {t : TT} (h : PW X e t) : PT X e t := h _
def PA (X : Cx) (es : List Expr) (t : TA) : Prop :=
  ∀ (pos : Pos) (pins : List (Addr × Obj)) (s : Shared) (σ : St) (H : Hp) (Q : List V → Hp → Prop), Inv X pins σ H s → t σ H Q → wpAny (model X.prog X.w) X.A (spliced (backTo pos (starEach es X.env))) (AP X pins σ Q) X.xe s
def PS (X : Cx) (st : Stmt) (t : TS) : Prop :=
  ∀ (pins : List (Addr × Obj)) (s : Shared) (σ : St) (H : Hp) (D : Ends), Inv X pins σ H s → t D σ H → wpAny (model X.prog X.w) X.A (exec st X.env) (SP X pins D) X.xe s
def PSs (X : Cx) (st : List Stmt) (t : TS) : Prop :=
  ∀ (pins : List (Addr × Obj)) (s : Shared) (σ : St) (H : Hp) (D : Ends), Inv X pins σ H s → t D σ H → wpAny (model X.prog X.w) X.A (execs st X.env) (SP X pins D) X.xe s
theorem thn {α : Type} {t : Sem α} {Q Q' : α → Shared → Prop} {M : Model} {A : Around} {E : Value → Shared → Prop} {s : Shared} (h : wpAny M A t Q E s) (hQ : ∀ a s, Q a s → Q' a s) : wpAny M A t Q' E s := wpAny_mono h hQ fun _ _ x => x
end L2
namespace L2
open PySem PySem.Spec PyProof.Rows
section
variable {X : Cx}
theorem bin {a b : Expr} {ta tb : TE} (ha : PE X a ta) (hb : PE X b tb) {pins : List (Addr × Obj)} {s : Shared} {σ : St} {H : Hp} {R : V → V → Hp → Prop} (I : Inv X pins σ H s) (h : ta σ H fun x H1 => tb σ H1 fun y H2 => R x y H2)
    {α : Type} {Q : α → Shared → Prop} {f : Value → Value → Sem α}
    (hf : ∀ v u s2 x y H2, Inv X pins σ H2 s2 → RelV x v → RelV y u → R x y H2 → wpAny (model X.prog X.w) X.A (f v u) Q X.xe s2) :
    wpAny (model X.prog X.w) X.A (eval a X.env) (fun v s₁ => wpAny (model X.prog X.w) X.A (eval b X.env) (fun u s₂ => wpAny (model X.prog X.w) X.A (f v u) Q X.xe s₂) X.xe s₁) X.xe s := by
  refine thn (ha pins s σ H _ I h) fun v s1 ⟨x, H1, I1, r1, q1⟩ => ?_
  refine thn (hb pins s1 σ H1 _ I1 q1) fun u s2 ⟨y, H2, I2, r2, q2⟩ => ?_
  exact hf v u s2 x y H2 I2 r1 r2 q2
def tVar (i : Nat) : TE := fun σ H Q => ∃ v, σ[i]? = some (some v) ∧ Q v H
def tC (v : V) : TE := fun _ H Q => Q v H
theorem pe_var {i : Nat} {x : Str} {pos : Pos} (hN : X.N[i]? = some x) (hv : Vis X.env.scope x) (hd : (x == ("__debug__" : Str)) = false := by decide) (hcd : (x == ("__classdict__" : Str)) = false := by decide) : PE X (.Name x pos) (tVar i) := by
  intro pins s σ H Q I h
  obtain ⟨v, e, h⟩ := h
  obtain ⟨m, hn, hl⟩ := I.loc
  obtain ⟨u, r, l⟩ := hl i x v hN e hv
  have fin : EP X pins σ Q u s := ⟨v, H, I, r, h⟩
  rcases l with ⟨hk, hm⟩ | ⟨hk, c, hc, hcell⟩
  · exact wpAny_Name (wpAny_loadName_local I.ok.kind hk hn hm fin) hd
  · rcases hk with hk | hk
    · exact wpAny_Name (wpAny_loadName_cell I.ok.kind hk hc hcell fin) hd
    · exact wpAny_Name (wpAny_loadName_free I.ok.kind hk hc hcell fin hcd) hd
theorem pe_int {i j pos} : PE X (.Constant (.int i) j pos) (tC (.int i)) := fun _ _ _ H _ I h => wpAny_Constant_int ⟨.int i, H, I.tok _, ⟨_, rfl⟩, h⟩
theorem pe_bl {b j pos} : PE X (.Constant (.bool b) j pos) (tC (.bl b)) := fun _ _ _ H _ I h => Constant_bool ⟨.bl b, H, I, rfl, h⟩
theorem pe_non {j pos} : PE X (.Constant .none j pos) (tC .non) := fun _ _ _ H _ I h => Constant_none ⟨.non, H, I, rfl, h⟩
theorem pe_str {x j pos} : PE X (.Constant (.str x) j pos) (tC (.str x)) := fun _ _ _ H _ I h => Calls.Constant_str ⟨.str x, H, I.tok _, ⟨_, rfl⟩, h⟩
def Gl (X : Cx) (x : Str) : Prop := X.env.kindOf x = some .globalImplicit
theorem ld_glob {E : Value → Shared → Prop} {pins : List (Addr × Obj)} {s : Shared} {σ : St} {H : Hp} {x : Str} {u : Value} {pos : Pos} {Q : Value → Shared → Prop} (I : Inv X pins σ H s) (hg : Gl X x) (hm : X.mg x = some u) (h : Q u s)
    (hd : (x == ("__debug__" : Str)) = false := by decide) : wpAny (model X.prog X.w) X.A (eval (.Name x pos) X.env) Q E s :=
  Calls.Name_function_global I.ok.kind hg (Calls.loadGlobal_global (by rw [I.ok.glob]; exact I.mod.glob.keeps I.bk) hm h) hd
theorem ld_blt {E : Value → Shared → Prop} {pins : List (Addr × Obj)} {s : Shared} {σ : St} {H : Hp} {x : Str} {u : Value} {pos : Pos} {Q : Value → Shared → Prop} (I : Inv X pins σ H s) (hg : Gl X x) (hm : X.mg x = none) (hv : bootBuiltins x = some u) (h : Q u s)
    (hn : x ≠ "__name__" := by decide) (hd : (x == ("__debug__" : Str)) = false := by decide) : wpAny (model X.prog X.w) X.A (eval (.Name x pos) X.env) Q E s := by
  obtain ⟨mb, h1, h2⟩ := I.mod.blt
  exact Calls.Name_function_global I.ok.kind hg (Calls.loadGlobal_builtin (by rw [I.ok.glob]; exact I.mod.glob.keeps I.bk) hm (by rw [I.ok.blt]; exact h1.keeps I.bk) ((h2 x hn).trans hv) h) hd
theorem pe_glob {x : Str} {v : V} {u : Value} {pos : Pos} (hg : Gl X x) (hm : X.mg x = some u) (r : RelV v u) (hd : (x == ("__debug__" : Str)) = false := by decide) : PE X (.Name x pos) (tC v) :=
  fun _ _ _ H _ I h => ld_glob I hg hm ⟨v, H, I, r, h⟩ hd
variable {a b : Expr} {ta tb : TE} {pos : Pos}
def PC (X : Cx) (op : CmpOp) (a b : Expr) (t : TE) : Prop :=
  ∀ (pins : List (Addr × Obj)) (s : Shared) (σ : St) (H : Hp) (Q : VK), Inv X pins σ H s → t σ H Q →
    wpAny (model X.prog X.w) X.A (eval a X.env) (fun v s₁ => wpAny (model X.prog X.w) X.A (eval b X.env) (fun u s₂ => wpAny (model X.prog X.w) X.A (compareOp op v u) (EP X pins σ Q) X.xe s₂) X.xe s₁) X.xe s
def tB (t : TE) : TT := fun σ H Q => t σ H fun x H1 => ∃ c, x = .bl c ∧ Q c H1
theorem pt_cmp {op : CmpOp} {t : TE} (h : PC X op a b t) (h1 : behindInMarks op b = false := by first | exact nobehind _ (by decide) (by decide) | rfl) : PT X (.Compare a [op] [b] pos) (tB t) := by
  intro pins s σ H Q I hw
  refine wpAny_isTrue_Compare1 (thn (h pins s σ H _ I hw) fun v s1 h1 => thn h1 fun u s2 h2 => thn h2 fun c s3 ⟨x, H1, I1, r1, q1⟩ => ?_) h1
  obtain ⟨d, rfl, q⟩ := q1
  cases r1
  exact wpAny_truthy_bool ⟨H1, I1, q⟩
theorem pt_val {e : Expr} {t : TE} (h : PE X e t) (he : ∀ whole, isTrue e X.env whole = (do let v ← whole; standAt e.pos; holding [v] (truthy v)) := by intro _; rfl) : PT X e (tB t) := by
  intro pins s σ H Q I hw
  refine isTrue_plain (thn (h pins s σ H _ I hw) fun v s1 ⟨x, H1, I1, r1, q1⟩ => ?_) (he _)
  obtain ⟨d, rfl, q⟩ := q1
  cases r1
  exact wpAny_truthy_bool ⟨H1, I1, q⟩
variable {tA tB' : TT} {rest : List Expr}
def tOr (t u : TT) : TT := fun σ H Q => t σ H fun c H1 => if c = true then Q true H1 else u σ H1 Q
def tNot (t : TT) : TT := fun σ H Q => t σ H fun c H1 => Q (!c) H1
theorem pw_or1 (ha : PT X a tA) : PW X (.BoolOp .Or [a] pos) tA := by
  intro wh pins s σ H Q I h
  refine isTrue_or (thn (ha pins s σ H Q I h) fun c s1 e => ?_)
  cases c with
  | false => exact isTrue_or_nil e
  | true => exact e
theorem pw_or (ha : PT X a tA) (hb : PW X (.BoolOp .Or (b :: rest) pos) tB') : PW X (.BoolOp .Or (a :: b :: rest) pos) (tOr tA tB') := by
  intro wh pins s σ H Q I h
  refine isTrue_or (thn (ha pins s σ H _ I h) fun c s1 ⟨H1, I1, q1⟩ => ?_)
  cases c with
  | true => exact ⟨H1, I1, q1⟩
  | false => exact hb wh pins s1 σ H1 Q I1 q1
theorem pt_not (ha : PT X a tA) : PT X (.UnaryOp .Not a pos) (tNot tA) := by
  intro pins s σ H Q I h
  exact isTrue_not (ha pins s σ H (fun c H1 => Q (!c) H1) I h)
def tAndV (ta tb : TE) : TE := fun σ H Q => ta σ H fun x H1 => ∃ c, x = .bl c ∧ if c = true then tb σ H1 Q else Q (.bl false) H1
theorem pe_one {op} {t : TE} (h : PE X a t) : PE X (.BoolOp op [a] pos) t := fun pins s σ H Q I hw => BoolOp_one (h pins s σ H Q I hw)
theorem pe_and (ha : PE X a ta) (hb : PE X (.BoolOp .And (b :: rest) pos) tb) : PE X (.BoolOp .And (a :: b :: rest) pos) (tAndV ta tb) := by
  intro pins s σ H Q I h
  refine BoolOp_and (thn (ha pins s σ H _ I h) fun v s1 ⟨x, H1, I1, r1, q1⟩ => ?_)
  obtain ⟨c, rfl, q1⟩ := q1
  cases r1
  refine wpAny_truthy_bool ?_
  cases c with
  | true => exact hb pins s1 σ H1 Q I1 q1
  | false => exact ⟨.bl false, H1, I1, rfl, q1⟩
def tIf (t : TT) (ta tb : TE) : TE := fun σ H Q => t σ H fun c H1 => if c = true then ta σ H1 Q else tb σ H1 Q
theorem pe_ifExp {c : Expr} (hc : PT X c tA) (ha : PE X a ta) (hb : PE X b tb) : PE X (.IfExp c a b pos) (tIf tA ta tb) := by
  intro pins s σ H Q I h
  refine wpAny_IfExp (thn (hc pins s σ H _ I h) fun d s1 ⟨H1, I1, q1⟩ => ?_)
  cases d with
  | true => exact ha pins s1 σ H1 Q I1 q1
  | false => exact hb pins s1 σ H1 Q I1 q1
end
end L2
namespace L2
open PySem PySem.Spec PyProof.Rows
def SqL (K : PySem.W.Frag) (H : Hp) (a : Addr) (xs : List V) : Prop :=
  Rd H a (.lst xs) ∨
    ∃ (o : Obj) (its : Array Value) (n : Nat), K.lookup a = some o ∧ o.cls = .type "list" ∧ o.dict = none ∧ o.data = .seq its n ∧ its.size ≤ sizeLine ∧ Vals xs its.toList
def SqT (K : PySem.W.Frag) (H : Hp) (a : Addr) (xs : List V) : Prop :=
  Rd H a (.tup xs) ∨
    ∃ (o : Obj) (its : Array Value) (n : Nat), K.lookup a = some o ∧ o.cls = .type "tuple" ∧ o.data = .seq its n ∧ its.size ≤ sizeLine ∧ Vals xs its.toList
def absV : Value → Option V
  | .none => some .non
  | .bool b => some (.bl b)
  | .int i _ => some (.int i)
  | .str x _ => some (.str x)
  | .bytes b _ => some (.byt b)
  | .float b _ => some (.flt b)
  | .ref a => some (.ref a)
  | .type n => some (.ty n)
  | _ => none
theorem RelV.abs {x : V} {u : Value} (r : RelV x u) : absV u = some x := by
  cases x with
  | non => cases r; rfl
  | bl _ => cases r; rfl
  | int _ => obtain ⟨t, rfl⟩ := r; rfl
  | str _ => obtain ⟨t, rfl⟩ := r; rfl
  | byt _ => obtain ⟨t, rfl⟩ := r; rfl
  | flt _ => obtain ⟨t, rfl⟩ := r; rfl
  | ref _ => cases r; rfl
  | ty _ => cases r; rfl
theorem RelV.inj {x y : V} {u : Value} (r : RelV x u) (q : RelV y u) : x = y := Option.some.inj (r.abs.symm.trans q.abs)
theorem Vals.inj : ∀ {xs ys : List V} {us : List Value}, Vals xs us → Vals ys us → xs = ys
  | _, _, _, .nil, .nil => rfl
  | _, _, _, .cons r t, .cons r' t' => by rw [r.inj r', Vals.inj t t']
section
variable {X : Cx} {pins : List (Addr × Obj)} {σ : St} {H : Hp} {s : Shared} {a : Addr} {xs ys : List V}
theorem SqL.of {K : PySem.W.Frag} (h : H a = some (.lst xs)) : SqL K H a xs := .inl (.inl h)
theorem SqT.of {K : PySem.W.Frag} (h : H a = some (.tup xs)) : SqT K H a xs := .inl (.inl h)
theorem Inv.list (I : Inv X pins σ H s) (h : SqL X.K H a xs) : ∃ its : List Value, Vals xs its ∧ PlainL s.heap a its.toArray ∧ xs.length ≤ sizeLine := by
  rcases h with h | ⟨o, its, n, hk, hc, hd, hs, hz, r⟩
  · obtain ⟨z, its, n, r, e⟩ := h.ok I.hok
    exact ⟨its, r, ⟨_, n, e, rfl, rfl, rfl⟩, z⟩
  · refine ⟨its.toList, r, ⟨o, n, I.kIn a o hk, hc, hd, by simpa using hs⟩, ?_⟩
    have e := r.length
    simp only [Array.length_toList] at e
    omega
theorem Inv.tuple (I : Inv X pins σ H s) (h : SqT X.K H a xs) : ∃ its : List Value, Vals xs its ∧ IsTup s.heap a its.toArray ∧ xs.length ≤ sizeLine := by
  rcases h with h | ⟨o, its, n, hk, hc, hs, hz, r⟩
  · obtain ⟨z, its, r, p⟩ := h.ok I.hok
    exact ⟨its, r, p, z⟩
  · refine ⟨its.toList, r, ⟨o, I.kIn a o hk, hc, n, by simpa using hs⟩, ?_⟩
    have e := r.length
    simp only [Array.length_toList] at e
    omega
theorem Inv.list_inj (I : Inv X pins σ H s) (h : SqL X.K H a xs) (h' : SqL X.K H a ys) : xs = ys := by
  obtain ⟨its, r, ⟨o, n, e, _, _, d⟩, _⟩ := I.list h
  obtain ⟨its', r', ⟨o', n', e', _, _, d'⟩, _⟩ := I.list h'
  rw [e] at e'; cases e'
  rw [d] at d'
  injection d' with d1 _
  have : its = its' := by simpa using congrArg Array.toList d1
  subst this
  exact r.inj r'
end
abbrev Cx.wish (X : Cx) (E : Value → Shared → Prop) : Cx := { X with xe := E }
abbrev Cx.nox (X : Cx) : Cx := X.wish fun _ _ => False
theorem Cx.Ok.wish {X : Cx} (ok : X.Ok) (E : Value → Shared → Prop) : (X.wish E).Ok :=
  ⟨ok.mod, ok.kind, ok.glob, ok.blt, ok.above, ok.inj, ok.has, ok.cab, ok.hd, ok.frames, ok.stk, ok.exf, ok.bs, ok.bsz, ok.noex, ok.exfs, ok.funs, ok.frf⟩
theorem Cx.Ok.unwish {X : Cx} {E : Value → Shared → Prop} (ok : (X.wish E).Ok) : X.Ok :=
  ⟨ok.mod, ok.kind, ok.glob, ok.blt, ok.above, ok.inj, ok.has, ok.cab, ok.hd, ok.frames, ok.stk, ok.exf, ok.bs, ok.bsz, ok.noex, ok.exfs, ok.funs, ok.frf⟩
section
variable {X : Cx} {pins : List (Addr × Obj)} {σ : St} {H : Hp} {s : Shared} {E : Value → Shared → Prop}
theorem Inv.wish (I : Inv X pins σ H s) (E : Value → Shared → Prop) : Inv (X.wish E) pins σ H s := ⟨I.ok.wish E, I.os, I.bare, I.base, I.loc, I.cell, I.free, I.freeC, I.pin, I.hok, I.len⟩
theorem Inv.unwish (I : Inv (X.wish E) pins σ H s) : Inv X pins σ H s := ⟨I.ok.unwish, I.os, I.bare, I.base, I.loc, I.cell, I.free, I.freeC, I.pin, I.hok, I.len⟩
theorem SP.unwish {D : Ends} {f : Flow} {s' : Shared} (h : SP (X.wish E) pins D f s') : SP X pins D f s' := by
  cases f with
  | next => obtain ⟨σ', H', I, q⟩ := h; exact ⟨σ', H', I.unwish, q⟩
  | brk => obtain ⟨σ', H', I, q⟩ := h; exact ⟨σ', H', I.unwish, q⟩
  | cont => obtain ⟨σ', H', I, q⟩ := h; exact ⟨σ', H', I.unwish, q⟩
  | ret u => obtain ⟨v, σ', H', I, r, q⟩ := h; exact ⟨v, σ', H', I.unwish, r, q⟩
theorem PSs.nox {st : List Stmt} {t : TS} (h : PSs X.nox st t) : PSs X st t := fun pins s σ H D I hw =>
  wpAny_mono (h pins s σ H D (I.wish _) hw) (fun _ _ q => q.unwish) fun _ _ z => False.elim z
end
section
variable {X : Cx} {st : Stmt} {rest : List Stmt} {t u : TS} {e : Expr} {te : TE} {pos : Pos}
def tNext : TS := fun D σ H => D.nx σ H
def tSeq (t u : TS) : TS := fun D σ H => t { D with nx := u D } σ H
theorem pss_nil : PSs X [] tNext := fun _ _ σ H _ I h => wpAny_execs_nil ⟨σ, H, I, h⟩
theorem pss_cons (h1 : PS X st t) (h2 : PSs X rest u) : PSs X (st :: rest) (tSeq t u) := by
  intro pins s σ H D I h
  refine wpAny_execs_cons (thn (h1 pins s σ H { D with nx := u D } I h) fun f s1 q => ?_)
  cases f with
  | next =>
    obtain ⟨σ', H', I', q⟩ := q
    exact h2 pins s1 σ' H' D I' q
  | ret v => exact q
  | brk => exact q
  | cont => exact q
theorem pss_one (h1 : PS X st t) : PSs X [st] t := by
  intro pins s σ H D I h
  refine wpAny_execs_cons (thn (h1 pins s σ H D I h) fun f s1 q => ?_)
  cases f with
  | next => exact wpAny_execs_nil q
  | ret v => exact q
  | brk => exact q
  | cont => exact q
def tBreak : TS := fun D σ H => D.bk σ H
theorem ps_break : PS X (.Break pos) tBreak := fun _ _ σ H _ I h => wpAny_Break ⟨σ, H, I, h⟩
theorem Inv.quiet {pins : List (Addr × Obj)} {σ : St} {H : Hp} {s : Shared} (I : Inv X pins σ H s) : interactive X.env = false := by simp [interactive, I.ok.kind]
def tDrop (te : TE) : TS := fun D σ H => te σ H fun _ H1 => D.nx σ H1
theorem ps_expr (he : PE X e te) (hs : swapsWith e none pos.line X.env = pure false := by rfl) : PS X (.Expr e pos) (tDrop te) := by
  intro pins s σ H D I h
  exact wpAny_Expr_any (thn (he pins s σ H _ I h) fun v s1 ⟨x, H1, I1, r1, q1⟩ => ⟨σ, H1, I1, q1⟩) I.quiet hs
def tRet (te : TE) : TS := fun D σ H => te σ H D.rt
theorem ps_ret (he : PE X e te) : PS X (.Return (some e) pos) (tRet te) := by
  intro pins s σ H D I h
  exact wpAny_Return_some (thn (he pins s σ H _ I h) fun v s1 ⟨x, H1, I1, r1, q1⟩ => ⟨x, σ, H1, I1, r1, q1⟩)
def tIfS (c : TT) (t u : TS) : TS := fun D σ H => c σ H fun b H1 => if b = true then t D σ H1 else u D σ H1
theorem ps_if {c : Expr} {a b : List Stmt} {tc : TT} (hc : PT X c tc) (ha : PSs X a t) (hb : PSs X b u) : PS X (.If c a b pos) (tIfS tc t u) := by
  intro pins s σ H D I h
  refine wpAny_If (thn (hc pins s σ H _ I h) fun d s1 ⟨H1, I1, q1⟩ => ?_)
  cases d with
  | true => exact ha pins s1 σ H1 D I1 q1
  | false => exact hb pins s1 σ H1 D I1 q1
def tNever : TS := fun _ _ _ => False
theorem ps_never : PS X st tNever := fun _ _ _ _ _ _ h => h.elim
end
abbrev TG := V → St → Hp → (St → Hp → Prop) → Prop
abbrev TGs := List V → St → Hp → (St → Hp → Prop) → Prop
def PG (X : Cx) (target : Expr) (t : TG) : Prop :=
  ∀ (pins : List (Addr × Obj)) (s : Shared) (σ : St) (H : Hp) (v : V) (u : Value) (Q : St → Hp → Prop), Inv X pins σ H s → RelV v u → t v σ H Q →
    wpAny (model X.prog X.w) X.A (assign target X.env u) (fun _ s' => ∃ σ' H', Inv X pins σ' H' s' ∧ Q σ' H') X.xe s
def PGs (X : Cx) (ts : List Expr) (t : TGs) : Prop :=
  ∀ (pins : List (Addr × Obj)) (s : Shared) (σ : St) (H : Hp) (vs : List V) (us : List Value) (Q : St → Hp → Prop), Inv X pins σ H s → Vals vs us → t vs σ H Q →
    wpAny (model X.prog X.w) X.A (assignInOrder ((assignEach ts X.env).map (·.2)) us) (fun _ s' => ∃ σ' H', Inv X pins σ' H' s' ∧ Q σ' H') X.xe s
abbrev TSet := V → V → V → Hp → (Hp → Prop) → Prop
def PSet (X : Cx) (t : TSet) : Prop :=
  ∀ (pins : List (Addr × Obj)) (s : Shared) (σ : St) (H : Hp) (o i v : V) (ov iv u : Value) (Q : Hp → Prop), Inv X pins σ H s → RelV o ov → RelV i iv → RelV v u → t o i v H Q →
    wpAny (model X.prog X.w) X.A (setItem ov iv u) (fun _ s' => ∃ H', Inv X pins σ H' s' ∧ Q H') X.xe s
section
variable {X : Cx} {pos : Pos}
def gName (i : Nat) : TG := fun v σ H Q => Q (σ.set i (some v)) H
theorem pg_name {i : Nat} {x : Str} (hN : X.N.Nodup) (hi : X.N[i]? = some x) (hx : Loc X.env.scope x) (hf : X.fn x = true ∨ X.env.scope.names.lookup x = some .local := by first | exact .inl rfl | exact .inr rfl | assumption) : PG X (.Name x pos) (gName i) := by
  intro pins s σ H v u Q I r h
  exact wpAny_assign_Name (store_ok I hN hi hx r (fun s' I' => ⟨_, H, I', h⟩) hf)
def gNil : TGs := fun vs σ H Q => vs = [] ∧ Q σ H
def gCons (t : TG) (u : TGs) : TGs := fun vs σ H Q => ∃ v r, vs = v :: r ∧ t v σ H fun σ' H' => u r σ' H' Q
theorem pgs_nil : PGs X [] gNil := by
  intro pins s σ H vs us Q I r h
  obtain ⟨e, h⟩ := h
  subst e
  cases r
  exact assignInOrder_nil ⟨σ, H, I, h⟩
theorem pgs_cons {e : Expr} {es : List Expr} {t : TG} {u : TGs} (h1 : PG X e t) (h2 : PGs X es u)
    (hs : (assignEach (e :: es) X.env).map (·.2) = assign e X.env :: (assignEach es X.env).map (·.2) := by rfl) : PGs X (e :: es) (gCons t u) := by
  intro pins s σ H vs us Q I r h
  obtain ⟨v, vr, e1, h⟩ := h
  subst e1
  cases r with
  | cons r rr =>
    rw [hs]
    refine assignInOrder_cons (thn (h1 pins s σ H _ _ _ I r h) fun _ s1 ⟨σ1, H1, I1, q1⟩ => ?_)
    exact h2 pins s1 σ1 H1 _ _ Q I1 rr q1
def gTup (K : PySem.W.Frag) (n : Nat) (t : TGs) : TG := fun v σ H Q => ∃ a xs, v = .ref a ∧ SqT K H a xs ∧ xs.length = n ∧ t xs σ H Q
theorem pg_tup {es : List Expr} {k : Nat} {t : TGs} {n : Nat} (hc : X.calm = true) (h : PGs X es t)
    (hn : (assignEach es X.env).length = n := by rfl) (hst : (assignEach es X.env).findIdx? (·.1) = none := by rfl) : PG X (.Tuple es k pos) (gTup X.K n t) := by
  intro pins s σ H v u Q I r hw
  obtain ⟨a, xs, e1, hq, hl, hw⟩ := hw
  subst e1
  cases r
  obtain ⟨its, rv, ht, hz⟩ := I.tuple hq
  refine assign_Tuple_tuple (I.ok.hd hc) ht (by simp [hn, ← hl, rv.length]) hst fun h' hx => ?_
  have I1 : Inv X pins σ H { s with heap := h' } := I.kept (t' := s.toks) fun b o e => hx b o (Nat.ne_of_lt (Heap.lt_size e)) e
  exact h pins _ σ H xs _ Q I1 (by simpa using rv) hw
def gSub (to ti : TE) (t : TSet) : TG := fun v σ H Q => to σ H fun o H1 => ti σ H1 fun i H2 => t o i v H2 fun H3 => Q σ H3
theorem pg_sub {o i : Expr} {to ti : TE} {t : TSet} (ho : PE X o to) (hi : PE X i ti) (hs : PSet X t)
    (ha : ∀ v, assign (.Subscript o i pos) X.env v = (do
      let ov ← holding [v] (eval o X.env)
      let iv ← holding [v, ov] (eval i X.env)
      standAt pos
      holding [v, ov, iv] (setItem ov iv v)
      release [v, ov, iv] []) := by intro _; rfl) : PG X (.Subscript o i pos) (gSub to ti t) := by
  intro pins s σ H v u Q I r h
  rw [ha]
  refine wpAny_bind (wpAny_holding (thn (ho pins s σ H _ I h) fun ov s1 ⟨x, H1, I1, r1, q1⟩ => ?_))
  refine wpAny_bind (wpAny_holding (thn (hi pins s1 σ H1 _ I1 q1) fun iv s2 ⟨y, H2, I2, r2, q2⟩ => ?_))
  refine wpAny_bind (wpAny_standAt (wpAny_bind (wpAny_holding (thn (hs pins s2 σ H2 x y v ov iv u _ I2 r1 r2 r q2) fun _ s3 ⟨H3, I3, q3⟩ => ?_))))
  exact wpAny_release ⟨σ, H3, I3, q3⟩
def tAsg (te : TE) (g : TG) : TS := fun D σ H => te σ H fun x H1 => g x σ H1 D.nx
theorem ps_asg {tg e : Expr} {te : TE} {g : TG} (he : PE X e te) (hg : PG X tg g) (hs : swapsWithSole [tg] e pos.line X.env = pure false := by rfl) (hw : swappedStores [tg] e X.env = pure none := by rfl)
    (h1 : (assignEach [tg] X.env).map (·.2) = [assign tg X.env] := by rfl) : PS X (.Assign [tg] e pos) (tAsg te g) := by
  intro pins s σ H D I h
  refine wpAny_Assign_stores (thn (he pins s σ H _ I h) fun v s1 ⟨x, H1, I1, r1, q1⟩ => ?_) hs hw
  rw [h1]
  exact thn (hg pins s1 σ H1 x v _ I1 r1 q1) fun _ s2 q => q
theorem ps_set {i : Nat} {x : Str} {e : Expr} {te : TE} {pos' : Pos} (hN : X.N.Nodup) (hi : X.N[i]? = some x) (hx : Loc X.env.scope x) (he : PE X e te) (hs : swapsWith e (some (.Name x pos')) pos.line X.env = pure false := by rfl) (hf : X.fn x = true ∨ X.env.scope.names.lookup x = some .local := by first | exact .inl rfl | exact .inr rfl | assumption) :
    PS X (.Assign [.Name x pos'] e pos) (tAsg te (gName i)) := by
  intro pins s σ H D I h
  refine wpAny_Assign_Name (thn (he pins s σ H _ I h) fun v s1 ⟨y, H1, I1, r1, q1⟩ => ?_) hs
  exact store_ok I1 hN hi hx r1 (fun s2 I2 => ⟨_, H1, I2, q1⟩) hf
end
section
variable {X : Cx} {pos : Pos}
def tWhile (c : TT) (tb : TS) : TS := fun D σ H => ∃ W : Nat → St → Hp → Prop, (∃ m, W m σ H) ∧ ∀ m σ H, W m σ H →
  c σ H fun b H1 => if b = true then ∃ N : St → Hp → Prop, (∀ σ' H', N σ' H' → ∃ m', m' < m ∧ W m' σ' H') ∧ tb { D with nx := N, ct := N, bk := D.nx } σ H1 else D.nx σ H1
theorem ps_while {c : Expr} {body : List Stmt} {tc : TT} {tb : TS} (hp : PassesOwn (model X.prog X.w) X.A X.env X.xe) (hc : PT X c tc) (hb : PSs X body tb) : PS X (.While c body [] pos) (tWhile tc tb) := by
  intro pins s σ H D I h
  obtain ⟨W, ⟨m0, w0⟩, turn⟩ := h
  refine wpAny_While (codeAny_whileLoop (fun n s' => ∃ σ' H', Inv X pins σ' H' s' ∧ W n σ' H') ?_ m0 ⟨σ, H, I, w0⟩)
  rintro n s1 ⟨σ1, H1, I1, w1⟩
  refine wpAny_passesOwn hp (thn (hc pins s1 σ1 H1 _ I1 (turn n σ1 H1 w1)) fun b s2 ⟨H2, I2, q2⟩ => ?_)
  cases b with
  | true =>
    obtain ⟨N, hN, q2⟩ := q2
    rw [if_pos rfl]
    refine wpAny_passesOwn hp (thn (hb pins s2 σ1 H2 _ I2 q2) fun f s3 q3 => ?_)
    cases f with
    | next =>
      obtain ⟨σ3, H3, I3, n3⟩ := q3
      obtain ⟨m', hm, w3⟩ := hN σ3 H3 n3
      exact ⟨m', hm, σ3, H3, I3, w3⟩
    | cont =>
      obtain ⟨σ3, H3, I3, n3⟩ := q3
      obtain ⟨m', hm, w3⟩ := hN σ3 H3 n3
      exact ⟨m', hm, σ3, H3, I3, w3⟩
    | brk => exact q3
    | ret v => exact q3
  | false =>
    rw [if_neg Bool.false_ne_true]
    exact wpAny_execs_nil ⟨σ1, H2, I2, q2⟩
end
structure It where
  go : Nat → Hp → Prop
  yld : Nat → Hp → V → Hp → Prop
  stop : Nat → Hp → Prop
def FpOk (X : Cx) (pins : List (Addr × Obj)) (H : Hp) (b : Addr) : Prop :=
  H b = none ∧ b ≠ X.env.locals ∧ b ∉ X.fs ∧ (b ∈ X.ex ∨ X.s_0.heap.objs.size ≤ b) ∧ (∀ x c, X.env.cells.lookup x = some c → c ≠ b) ∧ ∀ p ∈ X.pn ++ pins, p.1 ≠ b
theorem Inv.fpOk {X : Cx} {pins : List (Addr × Obj)} {σ : St} {H H' : Hp} {s : Shared} {b : Addr} (I : Inv X pins σ H s) (hb : s.heap.objs.size ≤ b) (hn : H' b = none) : FpOk X pins H' b := by
  refine ⟨hn, Nat.ne_of_gt (Nat.lt_of_lt_of_le I.lt hb), I.nofs hb, .inr (Nat.le_trans I.sz hb), fun x c e z => ?_, fun p hp z => ?_⟩
  · obtain ⟨v, q⟩ := I.cell x c e
    exact absurd (Nat.lt_of_lt_of_le q.lt (by rw [z]; exact hb)) (Nat.lt_irrefl _)
  · exact absurd (Nat.lt_of_lt_of_le (Heap.lt_size (I.pin p hp).1) (by rw [z]; exact hb)) (Nat.lt_irrefl _)
structure Turn (P : Program) (w : World) (K : PySem.W.Frag) (tg : Expr) (J : It) (fp : List Addr) (it : Addr) (tn : Nat → Heap → Prop) : Prop where
  mem : it ∈ fp
  obj : ∀ i h, tn i h → ∀ b ∈ fp, ∃ o, h.get? b = some o ∧ ∀ v, o.data ≠ .cell v
  keep : ∀ i h h', tn i h → (∀ b ∈ fp, ∀ o, h.get? b = some o → h'.get? b = some o) → tn i h'
  item : ∀ (X : Cx), X.prog = P → X.w = w → X.K = K → X.calm = true → ∀ (i : Nat) (pins : List (Addr × Obj)) (s : Shared) (σ : St) (H : Hp) (E : Value → Shared → Prop), Inv X pins σ H s → (∀ b ∈ fp, FpOk X pins H b) → tn i s.heap → J.go i H →
    wpAny (model P w) X.A (pyNext (.ref it)) (fun r s1 => ∃ u, r = some u ∧
      wpAny (model P w) X.A (letOwnedTupleGo tg (.ref it) u) (fun _ s2 => ∃ x H', Inv X pins σ H' s2 ∧ RelV x u ∧ J.yld i H x H' ∧ tn (i + 1) s2.heap ∧ ∀ b ∈ fp, H' b = none) E s1) E s
  done : ∀ (X : Cx), X.prog = P → X.w = w → X.K = K → X.calm = true → ∀ (i : Nat) (pins : List (Addr × Obj)) (s : Shared) (σ : St) (H : Hp) (E : Value → Shared → Prop), Inv X pins σ H s → (∀ b ∈ fp, FpOk X pins H b) → tn i s.heap → J.stop i H →
    wpAny (model P w) X.A (pyNext (.ref it)) (fun r s1 => r = none ∧ Inv X pins σ H s1) E s
  self : ∀ (A : Around) (i : Nat) (s : Shared) (Q : Value → Shared → Prop) (E : Value → Shared → Prop), tn i s.heap → Q (.ref it) s → wpAny (model P w) A (pyIter (.ref it)) Q E s
abbrev TI := St → Hp → (It → Hp → Prop) → Prop
def PIE (X : Cx) (pins : List (Addr × Obj)) (σ : St) (tg : Expr) (R : It → Hp → Prop) (itv : Value) (s2 : Shared) : Prop :=
  ∃ (it : Addr) (fp : List Addr) (tn : Nat → Heap → Prop) (J : It) (H' : Hp), itv = .ref it ∧ Inv X pins σ H' s2 ∧ Turn X.prog X.w X.K tg J fp it tn ∧ tn 0 s2.heap ∧ (∀ b ∈ fp, FpOk X pins H' b) ∧ R J H'
def PI (X : Cx) (tg iter : Expr) (wi : TI) : Prop :=
  ∀ (pins : List (Addr × Obj)) (s : Shared) (σ : St) (H : Hp) (R : It → Hp → Prop), Inv X pins σ H s → wi σ H R →
    wpAny (model X.prog X.w) X.A (eval iter X.env) (fun v s1 => wpAny (model X.prog X.w) X.A (pyIter v) (PIE X pins σ tg R) X.xe s1) X.xe s
theorem go_of {M : Model} {A : Around} {E : Value → Shared → Prop} {s : Shared} {tg : Expr} {it : Addr} {u : Value} {o : Obj} {n : String} {vs : Array Value} {Q : Unit → Shared → Prop} (ho : s.heap.get? it = some o) (hc : o.cls = .type n) (hd : o.data = .fields vs)
    (hn : ["enumerate", "zip", "dict_itemiterator", "dict_reverseitemiterator", "odict_iterator", "itertools.zip_longest", "itertools.pairwise"].contains n = false) (hQ : Q () s) : wpAny M A (letOwnedTupleGo tg (.ref it) u) Q E s := by
  unfold letOwnedTupleGo
  cases tg <;> first
    | exact wpAny_pure hQ
    | (cases u <;> first
        | exact wpAny_pure hQ
        | (refine wpAny_bind (wpAny_load ho ?_)
           rw [hc, hd]
           show wpAny M A (if (["enumerate", "zip", "dict_itemiterator", "dict_reverseitemiterator", "odict_iterator", "itertools.zip_longest", "itertools.pairwise"].contains n && vs[0]? == some (rawInt _)) = true then _ else _) Q E s
           rw [if_neg (by intro h; rw [hn, Bool.false_and] at h; cases h)]
           exact wpAny_pure hQ))
def Itl (K : PySem.W.Frag) (a : Addr) : It :=
  ⟨fun i H => ∃ xs x, SqL K H a xs ∧ xs[i]? = some x, fun i H x H' => H' = H ∧ ∀ xs, SqL K H a xs → xs[i]? = some x, fun i H => ∃ xs, SqL K H a xs ∧ xs.length ≤ i⟩
def Itr (lo : Int) (n : Nat) : It := ⟨fun i _ => i < n, fun i H x H' => H' = H ∧ x = .int (lo + i), fun i _ => n ≤ i⟩
theorem turn_list {P : Program} {w : World} {K : PySem.W.Frag} {tg : Expr} (a it : Addr) : Turn P w K tg (Itl K a) [it] it (fun i h => h.IsListIter it a i) where
  mem := by simp
  obj := fun i h st b hb => by
    have e : b = it := by simpa using hb
    subst e
    obtain ⟨o, e, c, d⟩ := st
    exact ⟨o, e, fun v z => by rw [d] at z; cases z⟩
  keep := fun i h h' st k => st.at fun o e => k it (by simp) o e
  item := by
    intro X hP hw hK hc i pins s σ H E I hf st hg
    subst hP hw hK
    obtain ⟨xs, x, hq, hx⟩ := hg
    obtain ⟨its, rv, p, hz⟩ := I.list hq
    obtain ⟨u, hu, ru⟩ := rv.get hx
    obtain ⟨f0, f1, f2, f3, f4, f5⟩ := hf it (by simp)
    refine wpAny_pyNext_list_item st p.isList (x := u) (by simpa using hu) fun h' st' sb => ?_
    have I1 : Inv X pins σ H { s with heap := h' } := I.turned (t' := s.toks) (fun b o hb e => (sb.2 b hb).trans e) f0 f1 f3 f4 f5
    obtain ⟨o, e, c, d⟩ := id st'
    exact ⟨u, rfl, go_of (s := { s with heap := h' }) e c d (by decide) ⟨x, H, I1, ru, ⟨rfl, fun ys hy => by rw [I.list_inj hy hq]; exact hx⟩, st', fun b hb => (hf b hb).1⟩⟩
  done := by
    intro X hP hw hK hc i pins s σ H E I hf st hg
    subst hP hw hK
    obtain ⟨xs, hq, hx⟩ := hg
    obtain ⟨its, rv, p, hz⟩ := I.list hq
    obtain ⟨f0, f1, f2, f3, f4, f5⟩ := hf it (by simp)
    have hl := rv.length
    exact wpAny_pyNext_list_end (I.ok.hd hc) st p.isList (by simp; omega) fun h' eb => ⟨rfl, I.turned (t' := s.toks) (fun b o hb e => eb b o hb e) f0 f1 f3 f4 f5⟩
  self := fun _ _ _ _ _ st h => wpAny_pyIter_listiter st h
theorem turn_range {P : Program} {w : World} {K : PySem.W.Frag} {tg : Expr} (it : Addr) (lo : Int) (n : Nat) : Turn P w K tg (Itr lo n) [it] it (fun i h => IsRangeIter h it (lo + (i : Nat) * 1) ((n : Int) - (i : Nat)) 1) where
  mem := by simp
  obj := fun i h st b hb => by
    have e : b = it := by simpa using hb
    subst e
    exact ⟨_, st, fun v z => by
      have z' : Data.fields _ = Data.cell v := z
      cases z'⟩
  keep := fun i h h' st k => k it (by simp) _ st
  item := by
    intro X hP hw hK hc i pins s σ H E I hf st hg
    subst hP hw hK
    obtain ⟨f0, f1, f2, f3, f4, f5⟩ := hf it (by simp)
    have W := Walks.range (prog := X.prog) (w := X.w) (I.ok.hd hc) it lo 1 n
    refine W.item i s _ _ hg st fun v h' tk hv st' kk => ?_
    obtain ⟨t, rfl⟩ := hv
    have I1 : Inv X pins σ H { s with heap := h', toks := tk } := I.turned (fun b o hb e => kk b o (by simpa using hb) e) f0 f1 f3 f4 f5
    refine ⟨_, rfl, go_of (s := { s with heap := h', toks := tk }) (n := "range_iterator") st' rfl rfl (by decide) ⟨.int (lo + i), H, I1, ⟨t, ?_⟩, ⟨rfl, rfl⟩, st', fun b hb => (hf b hb).1⟩⟩
    rw [Int.mul_one]
  done := by
    intro X hP hw hK hc i pins s σ H E I hf st hg
    subst hP hw hK
    obtain ⟨f0, f1, f2, f3, f4, f5⟩ := hf it (by simp)
    exact wpAny_pyNext_range_end (I.ok.hd hc) st (by have : n ≤ i := hg; omega) fun h' eb => ⟨rfl, I.turned (t' := s.toks) (fun b o hb e => eb b o hb e) f0 f1 f3 f4 f5⟩
  self := fun _ _ _ _ _ st h => wpAny_pyIter_rangeiter st h
end L2
namespace L2
open PySem PySem.Spec PyProof.Rows
section
variable {X : Cx} {tg : Expr}
def iList (K : PySem.W.Frag) (tl : TE) : TI := fun σ H R => tl σ H fun x H1 => ∃ a, x = .ref a ∧ (∃ xs, SqL K H1 a xs) ∧ R (Itl K a) H1
theorem pi_list {l : Expr} {tl : TE} (hl : PE X l tl) : PI X tg l (iList X.K tl) := by
  intro pins s σ H R I h
  refine thn (hl pins s σ H _ I h) fun v s1 ⟨x, H1, I1, r1, q1⟩ => ?_
  obtain ⟨a, e, ⟨xs, hq⟩, q⟩ := q1
  subst e
  cases r1
  obtain ⟨its, rv, p, hz⟩ := I1.list hq
  refine wpAny_pyIter_list p.isList ?_
  refine ⟨s1.heap.objs.size, [s1.heap.objs.size], _, _, H1, rfl, I1.kept (t' := s1.toks) fun b o e => Heap.get?_push_of_some _ e, turn_list a _, ⟨_, Heap.get?_push_size _ rfl, rfl, rfl⟩, fun b hb => ?_, q⟩
  have e : b = s1.heap.objs.size := by simpa using hb
  subst e
  exact I1.fpOk (Nat.le_refl _) (I1.hok.fresh (Nat.le_refl _))
theorem range_it {pins : List (Addr × Obj)} {σ : St} {H : Hp} {s : Shared} {R : It → Hp → Prop} {E : Value → Shared → Prop} {lo hi : Int} {t u v : Tok} {tk : Nat} (I : Inv X pins σ H s) (h1 : -(2 ^ 62) ≤ lo) (h2 : lo < 2 ^ 62) (h3 : -(2 ^ 62) ≤ hi) (h4 : hi < 2 ^ 62)
    (q : R (Itr lo (hi - lo).toNat) H) : wpAny (model X.prog X.w) X.A (pyIter (.ref s.heap.objs.size)) (PIE X pins σ tg R) E { s with heap := s.heap.push { cls := .type "range", data := .fields #[.int lo t, .int hi u, .int 1 v] }, toks := tk } := by
  refine wpAny_pyIter_range (IsRange.new ..) (small_one h1 h2 h3 h4) ?_
  have I1 : Inv X pins σ H { s with heap := s.heap.push { cls := .type "range", data := .fields #[.int lo t, .int hi u, .int 1 v] }, toks := tk } := I.kept fun b o e => Heap.get?_push_of_some _ e
  refine ⟨(s.heap.push { cls := .type "range", data := .fields #[.int lo t, .int hi u, .int 1 v] }).objs.size, [(s.heap.push { cls := .type "range", data := .fields #[.int lo t, .int hi u, .int 1 v] }).objs.size], _, _, H, rfl,
    I1.kept (t' := tk) fun b o e => Heap.get?_push_of_some _ e, turn_range _ lo (hi - lo).toNat, ?_, fun b hb => ?_, q⟩
  · have e1 : lo + ((0 : Nat) : Int) * 1 = lo := by simp
    have e2 : (((hi - lo).toNat : Nat) : Int) - ((0 : Nat) : Int) = Builtin.Range.rangeSize lo hi 1 := by rw [rangeSize_one]; split <;> omega
    show IsRangeIter _ _ (lo + ((0 : Nat) : Int) * 1) ((((hi - lo).toNat : Nat) : Int) - ((0 : Nat) : Int)) 1
    rw [e1, e2]
    exact Heap.get?_push_size _ rfl
  · have e : b = (s.heap.push { cls := .type "range", data := .fields #[.int lo t, .int hi u, .int 1 v] }).objs.size := by simpa using hb
    subst e
    exact I1.fpOk (Nat.le_refl _) (I1.hok.fresh (Nat.le_refl _))
def iRng1 (ta : TA) : TI := fun σ H R => ta σ H fun vs H1 => ∃ j : Int, vs = [.int j] ∧ -(2 ^ 62) ≤ j ∧ j < 2 ^ 62 ∧ R (Itr 0 j.toNat) H1
def iRng2 (ta : TA) : TI := fun σ H R => ta σ H fun vs H1 => ∃ i j : Int, vs = [.int i, .int j] ∧ (-(2 ^ 62) ≤ i ∧ i < 2 ^ 62 ∧ -(2 ^ 62) ≤ j ∧ j < 2 ^ 62) ∧ R (Itr i (j - i).toNat) H1
theorem pi_range1 {a : Expr} {ta : TA} {p pos : Pos} (hg : Gl X "range") (hm : X.mg "range" = none) (ha : PA X [a] ta) (hs : starEach [a] X.env = [(false, eval a X.env)] := by rfl) : PI X tg (.Call (.Name "range" p) [a] [] pos) (iRng1 ta) := by
  intro pins s σ H R I h
  refine Call_ (ld_blt I hg hm boot_range (PyProof.Rows.callWith_type1 (thn (ha pos pins s σ H _ I h) fun us s1 ⟨vs, H1, I1, r1, q1⟩ => ?_) hs rfl))
  obtain ⟨j, e, q1, q2, q⟩ := q1
  subst e
  cases r1 with
  | cons r rr =>
    cases rr
    obtain ⟨t, rfl⟩ := r
    exact call_range_1 (range_it I1 (by omega) (by omega) q1 q2 (by simpa using q))
theorem pi_range2 {a b : Expr} {ta : TA} {p pos : Pos} (hg : Gl X "range") (hm : X.mg "range" = none) (ha : PA X [a, b] ta) (hs : starEach [a, b] X.env = [(false, eval a X.env), (false, eval b X.env)] := by rfl) (hs2 : starEach [b] X.env = [(false, eval b X.env)] := by rfl) :
    PI X tg (.Call (.Name "range" p) [a, b] [] pos) (iRng2 ta) := by
  intro pins s σ H R I h
  refine Call_ (ld_blt I hg hm boot_range (PyProof.Rows.callWith_type1 (thn (ha pos pins s σ H _ I h) fun us s1 ⟨vs, H1, I1, r1, q1⟩ => ?_) (by rw [hs, hs2]) (by rw [hs2]; rfl)))
  obtain ⟨i, j, e, ⟨q1, q2, q3, q4⟩, q⟩ := q1
  subst e
  cases r1 with
  | cons r rr =>
    cases rr with
    | cons r' rr =>
      cases rr
      obtain ⟨t, rfl⟩ := r
      obtain ⟨t', rfl⟩ := r'
      exact call_range_2 (range_it I1 q1 q2 q3 q4 q)
def tFor (wi : TI) (g : TG) (tb : TS) : TS := fun D σ H => wi σ H fun J H1 => ∃ W : Nat → Nat → St → Hp → Prop, (∃ m, W 0 m σ H1) ∧ ∀ i m σ H, W i m σ H →
  (J.stop i H ∧ D.nx σ H) ∨ (J.go i H ∧ ∃ N : St → Hp → Prop, (∀ σ' H', N σ' H' → ∃ m', m' < m ∧ W (i + 1) m' σ' H') ∧ ∀ x H', J.yld i H x H' → g x σ H' fun σ2 H2 => tb { D with nx := N, ct := N, bk := D.nx } σ2 H2)
def pinsAt (fp : List Addr) (h : Heap) : List (Addr × Obj) := fp.filterMap fun b => (h.get? b).map fun o => (b, o)
theorem mem_pinsAt {fp : List Addr} {h : Heap} {b : Addr} {o : Obj} (hb : b ∈ fp) (e : h.get? b = some o) : (b, o) ∈ pinsAt fp h := List.mem_filterMap.mpr ⟨b, hb, by rw [e]; rfl⟩
theorem of_pinsAt {fp : List Addr} {h : Heap} {p : Addr × Obj} (hp : p ∈ pinsAt fp h) : p.1 ∈ fp ∧ h.get? p.1 = some p.2 := by
  obtain ⟨b, hb, e⟩ := List.mem_filterMap.mp hp
  cases q : h.get? b with
  | none => rw [q] at e; cases e
  | some o =>
    rw [q] at e
    have e' : (b, o) = p := Option.some.inj e
    subst e'
    exact ⟨hb, q⟩
theorem Inv.pinned {pins : List (Addr × Obj)} {σ : St} {H : Hp} {s : Shared} {fp : List Addr} (I : Inv X pins σ H s) (hf : ∀ b ∈ fp, FpOk X pins H b) (ho : ∀ b ∈ fp, ∃ o, s.heap.get? b = some o ∧ ∀ v, o.data ≠ .cell v) : Inv X (pins ++ pinsAt fp s.heap) σ H s :=
  I.pins_of fun p hp => (List.mem_append.mp hp).elim (fun z => I.pin p (List.mem_append_right _ z)) fun z => by
    obtain ⟨hb, e⟩ := of_pinsAt z
    obtain ⟨f0, f1, f2, _⟩ := hf p.1 hb
    obtain ⟨o, e', d⟩ := ho p.1 hb
    rw [e] at e'; cases e'
    exact ⟨e, f0, f1, f2, d⟩
theorem Inv.unpinned {pins pl : List (Addr × Obj)} {σ : St} {H : Hp} {s : Shared} (I : Inv X (pins ++ pl) σ H s) : Inv X pins σ H s := I.pins_of fun p hp => I.pin p (List.mem_append_right _ (List.mem_append_left _ hp))
theorem ps_for {iter : Expr} {body : List Stmt} {wi : TI} {g : TG} {tb : TS} {pos : Pos} (hp : PassesOwn (model X.prog X.w) X.A X.env X.xe) (hc : X.calm = true) (hi : PI X tg iter wi) (hg : PG X tg g) (hb : PSs X body tb)
    (hs : ∀ x, foldedSetIterable iter X.env x = pure x := by intro _; rfl) : PS X (.For tg iter body [] pos) (tFor wi g tb) := by
  intro pins s σ H D I h
  refine wpAny_For (thn (hi pins s σ H _ I h) fun v s1 h1 => thn h1 fun itv s2 h2 => ?_) hs
  obtain ⟨it, fp, tn, J, H2, e, I2, T, st2, f2, W, ⟨m0, w0⟩, turn⟩ := h2
  subst e
  -- what stays true of the iterator's objects through the loop
  have stat : ∀ {H' : Hp}, (∀ b ∈ fp, H' b = none) → ∀ b ∈ fp, FpOk X pins H' b := fun hn b hb => ⟨hn b hb, (f2 b hb).2⟩
  refine codeAny_forLoop_any (fun n s' => ∃ i σ' H', Inv X pins σ' H' s' ∧ tn i s'.heap ∧ (∀ b ∈ fp, H' b = none) ∧ W i n σ' H') ?_ m0 ⟨0, σ, H2, I2, st2, fun b hb => (f2 b hb).1, w0⟩
  rintro n s3 ⟨i, σ3, H3, I3, st3, fr3, w3⟩
  rcases turn i n σ3 H3 w3 with ⟨stop, qn⟩ | ⟨go, N, hN, step⟩
  · refine wpAny_passesOwn hp (thn (T.done X rfl rfl rfl hc i pins s3 σ3 H3 X.xe I3 (stat fr3) st3 stop) fun r s4 ⟨hr, I4⟩ => ?_)
    subst hr
    exact wpAny_execs_nil ⟨σ3, H3, I4, qn⟩
  · refine wpAny_passesOwn hp (thn (T.item X rfl rfl rfl hc i pins s3 σ3 H3 X.xe I3 (stat fr3) st3 go) fun r s4 ⟨u, hr, h4⟩ => ?_)
    subst hr
    refine wpAny_passesOwn hp (thn h4 fun _ s5 ⟨x, H5, I5, r5, y5, st5, fr5⟩ => ?_)
    have I5' := I5.pinned (stat fr5) (T.obj _ _ st5)
    refine wpAny_passesOwn hp (thn (hg _ s5 σ3 H5 x u _ I5' r5 (step x H5 y5)) fun _ s6 ⟨σ6, H6, I6, q6⟩ => ?_)
    refine wpAny_passesOwn hp (thn (hb _ s6 σ6 H6 _ I6 q6) fun f s7 q7 => ?_)
    have again : ∀ {σ7 : St} {H7 : Hp}, Inv X (pins ++ pinsAt fp s5.heap) σ7 H7 s7 → N σ7 H7 → ∃ m, m < n ∧ ∃ i σ' H', Inv X pins σ' H' s7 ∧ tn i s7.heap ∧ (∀ b ∈ fp, H' b = none) ∧ W i m σ' H' := fun {σ7 H7} I7 n7 => by
      obtain ⟨m', hm, w7⟩ := hN σ7 H7 n7
      refine ⟨m', hm, i + 1, σ7, H7, I7.unpinned, T.keep _ _ _ st5 fun b hb o e => (I7.pin (b, o) (List.mem_append_right _ (List.mem_append_right _ (mem_pinsAt hb e)))).1, fun b hb => ?_, w7⟩
      obtain ⟨o, e, d⟩ := T.obj _ _ st5 b hb
      exact (I7.pin (b, o) (List.mem_append_right _ (List.mem_append_right _ (mem_pinsAt hb e)))).2.1
    cases f with
    | next => obtain ⟨σ7, H7, I7, n7⟩ := q7; exact again I7 n7
    | cont => obtain ⟨σ7, H7, I7, n7⟩ := q7; exact again I7 n7
    | brk => obtain ⟨σ7, H7, I7, q7⟩ := q7; exact ⟨σ7, H7, I7.unpinned, q7⟩
    | ret v => obtain ⟨x7, σ7, H7, I7, r7, q7⟩ := q7; exact ⟨x7, σ7, H7, I7.unpinned, r7, q7⟩
end
theorem for_list {K : PySem.W.Frag} {a : Addr} {xs : List V} {g : TG} {tb : TS} {D : Ends} {σ : St} {H : Hp} (Pv : Nat → St → Hp → Prop) (h0 : Pv 0 σ H) (hl : ∀ i σ H, i ≤ xs.length → Pv i σ H → SqL K H a xs)
    (hs : ∀ i x σ H, xs[i]? = some x → Pv i σ H → g x σ H fun σ2 H2 => tb { D with nx := Pv (i + 1), ct := Pv (i + 1), bk := D.nx } σ2 H2) (hd : ∀ σ H, Pv xs.length σ H → D.nx σ H) :
    ∃ W : Nat → Nat → St → Hp → Prop, (∃ m, W 0 m σ H) ∧ ∀ i m σ H, W i m σ H →
      ((Itl K a).stop i H ∧ D.nx σ H) ∨ ((Itl K a).go i H ∧ ∃ N : St → Hp → Prop, (∀ σ' H', N σ' H' → ∃ m', m' < m ∧ W (i + 1) m' σ' H') ∧ ∀ x H', (Itl K a).yld i H x H' → g x σ H' fun σ2 H2 => tb { D with nx := N, ct := N, bk := D.nx } σ2 H2) := by
  refine ⟨fun i m σ H => m = xs.length - i ∧ i ≤ xs.length ∧ Pv i σ H, ⟨xs.length, by simp, Nat.zero_le _, h0⟩, ?_⟩
  rintro i m σ H ⟨rfl, hi, p⟩
  have q := hl i σ H hi p
  by_cases hlt : i < xs.length
  · refine .inr ⟨⟨xs, xs[i], q, by simp [hlt]⟩, Pv (i + 1), fun σ' H' p' => ⟨xs.length - (i + 1), by omega, rfl, hlt, p'⟩, fun x H' y => ?_⟩
    obtain ⟨e, y⟩ := y
    subst e
    exact hs i x σ _ (y xs q) p
  · have e : i = xs.length := by omega
    subst e
    exact .inl ⟨⟨xs, q, Nat.le_refl _⟩, hd σ H p⟩
theorem for_range {lo : Int} {n : Nat} {g : TG} {tb : TS} {D : Ends} {σ : St} {H : Hp} (Pv : Nat → St → Hp → Prop) (h0 : Pv 0 σ H)
    (hs : ∀ i σ H, i < n → Pv i σ H → g (.int (lo + i)) σ H fun σ2 H2 => tb { D with nx := Pv (i + 1), ct := Pv (i + 1), bk := D.nx } σ2 H2) (hd : ∀ σ H, Pv n σ H → D.nx σ H) :
    ∃ W : Nat → Nat → St → Hp → Prop, (∃ m, W 0 m σ H) ∧ ∀ i m σ H, W i m σ H →
      ((Itr lo n).stop i H ∧ D.nx σ H) ∨ ((Itr lo n).go i H ∧ ∃ N : St → Hp → Prop, (∀ σ' H', N σ' H' → ∃ m', m' < m ∧ W (i + 1) m' σ' H') ∧ ∀ x H', (Itr lo n).yld i H x H' → g x σ H' fun σ2 H2 => tb { D with nx := N, ct := N, bk := D.nx } σ2 H2) := by
  refine ⟨fun i m σ H => m = n - i ∧ i ≤ n ∧ Pv i σ H, ⟨n, by simp, Nat.zero_le _, h0⟩, ?_⟩
  rintro i m σ H ⟨rfl, hi, p⟩
  by_cases hlt : i < n
  · refine .inr ⟨hlt, Pv (i + 1), fun σ' H' p' => ⟨n - (i + 1), by omega, rfl, hlt, p'⟩, fun x H' y => ?_⟩
    obtain ⟨e, y⟩ := y
    subst e y
    exact hs i σ _ hlt p
  · have e : i = n := by omega
    subst e
    exact .inl ⟨Nat.le_refl _, hd σ H p⟩
theorem while_by {c : TT} {tb : TS} {D : Ends} {σ : St} {H : Hp} (Pv : St → Hp → Prop) (μ : St → Hp → Nat) (h0 : Pv σ H)
    (hs : ∀ σ H, Pv σ H → c σ H fun b H1 => if b = true then tb { D with nx := fun σ' H' => Pv σ' H' ∧ μ σ' H' < μ σ H, ct := fun σ' H' => Pv σ' H' ∧ μ σ' H' < μ σ H, bk := D.nx } σ H1 else D.nx σ H1)
    (mono : ∀ σ H Q Q', (∀ b H1, Q b H1 → Q' b H1) → c σ H Q → c σ H Q') : tWhile c tb D σ H := by
  refine ⟨fun m σ H => m = μ σ H ∧ Pv σ H, ⟨_, rfl, h0⟩, ?_⟩
  rintro m σ H ⟨rfl, p⟩
  refine mono σ H _ _ (fun b H1 q => ?_) (hs σ H p)
  cases b with
  | true => exact ⟨_, fun σ' H' ⟨p', l⟩ => ⟨_, l, rfl, p'⟩, q⟩
  | false => exact q
end L2
namespace L2
open PySem PySem.Spec PyProof.Rows
abbrev R2 := V → V → Hp → VK → Prop
def OpR (X : Cx) (f : Value → Value → Sem Value) (r : R2) : Prop :=
  ∀ (pins : List (Addr × Obj)) (s : Shared) (σ : St) (H : Hp) (x y : V) (v u : Value) (Q : VK), Inv X pins σ H s → RelV x v → RelV y u → r x y H Q →
    wpAny (model X.prog X.w) X.A (f v u) (EP X pins σ Q) X.xe s
def UnR (X : Cx) (f : Value → Sem Value) (r : V → Hp → VK → Prop) : Prop :=
  ∀ (pins : List (Addr × Obj)) (s : Shared) (σ : St) (H : Hp) (x : V) (v : Value) (Q : VK), Inv X pins σ H s → RelV x v → r x H Q →
    wpAny (model X.prog X.w) X.A (f v) (EP X pins σ Q) X.xe s
def CallR (X : Cx) (f : Value) (r : List V → Hp → VK → Prop) : Prop :=
  ∀ (pins : List (Addr × Obj)) (s : Shared) (σ : St) (H : Hp) (xs : List V) (us : List Value) (Q : VK), Inv X pins σ H s → Vals xs us → r xs H Q →
    wpAny (model X.prog X.w) X.A (call f us) (EP X pins σ Q) X.xe s
def tOp (r : R2) (ta tb : TE) : TE := fun σ H Q => ta σ H fun x H1 => tb σ H1 fun y H2 => r x y H2 Q
def tUn (r : V → Hp → VK → Prop) (ta : TE) : TE := fun σ H Q => ta σ H fun x H1 => r x H1 Q
def rI (C : Int → Int → Prop) (g : Int → Int → V) : R2 := fun x y H Q => ∃ i j, x = .int i ∧ y = .int j ∧ C i j ∧ Q (g i j) H
def rI0 (g : Int → Int → V) : R2 := fun x y H Q => ∃ i j, x = .int i ∧ y = .int j ∧ Q (g i j) H
def rU (g : Int → V) : V → Hp → VK → Prop := fun x H Q => ∃ i, x = .int i ∧ Q (g i) H
section
variable {X : Cx} {a b c : Expr} {ta tb tc : TE} {pos : Pos}
theorem binT (ha : PE X a ta) (hb : PE X b tb) {pins : List (Addr × Obj)} {s : Shared} {σ : St} {H : Hp} {R : V → V → Hp → Prop} (I : Inv X pins σ H s)
    (h : ta σ H fun x H1 => tb σ H1 fun y H2 => R x y H2) {Q : Value → Shared → Prop} {f : Value → Value → Sem Value}
    (hf : ∀ v u s2 x y H2, Inv X pins σ H2 s2 → RelV x v → RelV y u → R x y H2 → wpAny (model X.prog X.w) X.A (f v u) Q X.xe s2) :
    wpAny (model X.prog X.w) X.A (eval a X.env) (fun v s₁ => wpAny (model X.prog X.w) X.A (eval b X.env) (fun u s₂ => wpAny (model X.prog X.w) X.A (f v u) Q X.xe s₂) X.xe s₁) X.xe s := by
  refine thn (ha pins s σ H _ I h) fun v s1 ⟨x, H1, I1, r1, q1⟩ => ?_
  refine thn (hb pins s1 σ H1 _ I1 q1) fun u s2 ⟨y, H2, I2, r2, q2⟩ => ?_
  exact hf v u s2 x y H2 I2 r1 r2 q2
theorem pe_op {op : Operator} {r : R2} (ho : OpR X (binaryOp op) r) (ha : PE X a ta) (hb : PE X b tb) : PE X (.BinOp a op b pos) (tOp r ta tb) := by
  intro pins s σ H Q I h
  exact wpAny_BinOp (binT ha hb I h fun v u s2 x y H2 I2 rx ry q => ho pins s2 σ H2 x y v u Q I2 rx ry q)
theorem pe_un {op : UnaryOp} {r : V → Hp → VK → Prop} (ho : UnR X (unaryOp op) r) (ha : PE X a ta) : PE X (.UnaryOp op a pos) (tUn r ta) := by
  intro pins s σ H Q I h
  exact UnaryOp_ (thn (ha pins s σ H _ I h) fun v s1 ⟨x, H1, I1, r1, q1⟩ => ho pins s1 σ H1 x v Q I1 r1 q1)
theorem opI {f : Value → Value → Sem Value} {C : Int → Int → Prop} {g : Int → Int → Int}
    (rule : ∀ (i j : Int) (t u : Tok) (s : Shared) (Q : Value → Shared → Prop) (E : Value → Shared → Prop), C i j → Q (.int (g i j) s.toks) { s with toks := s.toks + 1 } → wpAny (model X.prog X.w) X.A (f (.int i t) (.int j u)) Q E s) :
    OpR X f (rI C fun i j => .int (g i j)) := by
  intro pins s σ H x y v u Q I rx ry h
  obtain ⟨i, j, rfl, rfl, hc, q⟩ := h
  obtain ⟨t, rfl⟩ := rx
  obtain ⟨t', rfl⟩ := ry
  exact rule i j t t' s _ _ hc ⟨.int (g i j), H, I.tok _, ⟨_, rfl⟩, q⟩
theorem opI0 {f : Value → Value → Sem Value} {g : Int → Int → Int}
    (rule : ∀ (i j : Int) (t u : Tok) (s : Shared) (Q : Value → Shared → Prop) (E : Value → Shared → Prop), Q (.int (g i j) s.toks) { s with toks := s.toks + 1 } → wpAny (model X.prog X.w) X.A (f (.int i t) (.int j u)) Q E s) :
    OpR X f (rI0 fun i j => .int (g i j)) := by
  intro pins s σ H x y v u Q I rx ry h
  obtain ⟨i, j, rfl, rfl, q⟩ := h
  obtain ⟨t, rfl⟩ := rx
  obtain ⟨t', rfl⟩ := ry
  exact rule i j t t' s _ _ ⟨.int (g i j), H, I.tok _, ⟨_, rfl⟩, q⟩
theorem opB0 {f : Value → Value → Sem Value} {g : Int → Int → Bool}
    (rule : ∀ (i j : Int) (t u : Tok) (s : Shared) (Q : Value → Shared → Prop) (E : Value → Shared → Prop), Q (.bool (g i j)) s → wpAny (model X.prog X.w) X.A (f (.int i t) (.int j u)) Q E s) :
    OpR X f (rI0 fun i j => .bl (g i j)) := by
  intro pins s σ H x y v u Q I rx ry h
  obtain ⟨i, j, rfl, rfl, q⟩ := h
  obtain ⟨t, rfl⟩ := rx
  obtain ⟨t', rfl⟩ := ry
  exact rule i j t t' s _ _ ⟨.bl (g i j), H, I, rfl, q⟩
def CDiv (i j : Int) : Prop := 0 < j ∧ j < 1073741824
def CPow (i j : Int) : Prop := 0 ≤ j ∧ j ≤ 1000000 ∧ i.natAbs < 2 ^ 64
def CMul (i j : Int) : Prop := (-(2 ^ 64) < i ∧ i < 2 ^ 64) ∨ (-(2 ^ 64) < j ∧ j < 2 ^ 64)
theorem CMul.ok {i j : Int} (h : CMul i j) : IntMulOk i j := by
  rcases h with ⟨h1, h2⟩ | ⟨h1, h2⟩
  · exact .of_left (intBits_le_64 h1 h2)
  · exact .of_right (intBits_le_64 h1 h2)
theorem two_pow_nn (k : Nat) : (0 : Int) ≤ 2 ^ k := by
  rw [two_pow_cast]
  exact Int.natCast_nonneg _
theorem op_add : OpR X (binaryOp .Add) (rI0 fun i j => .int (i + j)) := opI0 fun _ _ _ _ _ _ _ q => add_int q
theorem op_sub : OpR X (binaryOp .Sub) (rI0 fun i j => .int (i - j)) := opI0 fun _ _ _ _ _ _ _ q => sub_int q
theorem op_mul : OpR X (binaryOp .Mult) (rI CMul fun i j => .int (i * j)) := opI fun _ _ _ _ _ _ _ hc q => mul_int q hc.ok
theorem op_fdiv : OpR X (binaryOp .FloorDiv) (rI CDiv fun i j => .int (i / j)) := opI fun i j _ _ _ _ _ hc q => by
  have h1 : (0 : Int) < j := hc.1
  have h2 : j < 1073741824 := hc.2
  exact floordiv_int (by omega) (by rw [Int.fdiv_eq_ediv_of_nonneg i (by omega)]; exact q) (.inl (PyProof.noPylong_small (by omega)))
theorem op_mod : OpR X (binaryOp .Mod) (rI (fun _ j => 0 < j) fun i j => .int (i % j)) := opI fun i j _ _ _ _ _ hc q => by
  have h1 : (0 : Int) < j := hc
  exact mod_int' (by omega) (by rw [Int.fmod_eq_emod_of_nonneg i (by omega)]; exact q)
theorem op_shl : OpR X (binaryOp .LShift) (rI CPow fun i j => .int (i * 2 ^ j.toNat)) := opI fun _ _ _ _ _ _ _ hc q => lshift_int_small hc.1 hc.2.1 hc.2.2 q
theorem op_shr : OpR X (binaryOp .RShift) (rI (fun _ j => 0 ≤ j) fun i j => .int (i / 2 ^ j.toNat)) := opI fun i j _ _ _ _ _ hc q =>
  rshift_int hc (by rw [Int.fdiv_eq_ediv_of_nonneg i (two_pow_nn _)]; exact q)
theorem op_and : OpR X (binaryOp .BitAnd) (rI0 fun i j => .int (Builtin.bitAnd i j)) := opI0 fun _ _ _ _ _ _ _ q => and_int q
theorem unI {f : Value → Sem Value} {g : Int → Int}
    (rule : ∀ (i : Int) (t : Tok) (s : Shared) (Q : Value → Shared → Prop) (E : Value → Shared → Prop), Q (.int (g i) s.toks) { s with toks := s.toks + 1 } → wpAny (model X.prog X.w) X.A (f (.int i t)) Q E s) :
    UnR X f (rU fun i => .int (g i)) := by
  intro pins s σ H x v Q I rx h
  obtain ⟨i, rfl, q⟩ := h
  obtain ⟨t, rfl⟩ := rx
  exact rule i t s _ _ ⟨.int (g i), H, I.tok _, ⟨_, rfl⟩, q⟩
theorem un_neg : UnR X (unaryOp .USub) (rU fun i => .int (-i)) := unI fun _ _ _ _ _ q => neg_int q
end
def scal : V → V → Bool
  | .non, .non => true | .non, .int _ => true | .int _, .non => true | .non, .bl _ => true | .bl _, .non => true | .non, .str _ => true | .str _, .non => true
  | .int _, .int _ => true | .bl _, .bl _ => true | .str _, .str _ => true | .byt _, .byt _ => true
  | .int _, .str _ => true | .str _, .int _ => true | .bl _, .str _ => true | .str _, .bl _ => true
  | _, _ => false
def rEq : R2 := fun x y H Q => scal x y = true ∧ Q (.bl (decide (x = y))) H
def rNe : R2 := fun x y H Q => scal x y = true ∧ Q (.bl (!decide (x = y))) H
theorem dec_int {i j : Int} : decide (V.int i = V.int j) = (i == j) := by
  rw [Bool.eq_iff_iff]
  simp
theorem dec_bl {i j : Bool} : decide (V.bl i = V.bl j) = (i == j) := by
  rw [Bool.eq_iff_iff]
  simp
theorem dec_str {i j : Str} : decide (V.str i = V.str j) = (i == j) := by
  rw [Bool.eq_iff_iff]
  simp
theorem dec_byt {i j : Array UInt8} : decide (V.byt i = V.byt j) = (i.toList == j.toList) := by
  rw [Bool.eq_iff_iff]
  cases i
  cases j
  simp
section
variable {X : Cx} {a b c : Expr} {ta tb tc : TE} {pos : Pos}
theorem fin_bl {pins : List (Addr × Obj)} {σ : St} {H : Hp} {s : Shared} {Q : VK} {k k' : Bool} (I : Inv X pins σ H s) (q : Q (.bl k) H) (e : k = k') : EP X pins σ Q (.bool k') s := by
  subst e
  exact ⟨.bl k, H, I, rfl, q⟩
theorem op_eq : OpR X (compareOp .Eq) rEq := by
  intro pins s σ H x y v u Q I rx ry h
  obtain ⟨hs, q⟩ := h
  cases x with
  | non =>
    cases rx
    cases y with
    | non => cases ry; exact PySem.EqNone.eq_none_none (fin_bl I q (by simp))
    | bl j => cases ry; exact PySem.EqNone.eq_none_bool (fin_bl I q (by simp))
    | int j => obtain ⟨t', rfl⟩ := ry; exact PySem.EqNone.eq_none_int (fin_bl I q (by simp))
    | str j => obtain ⟨t', rfl⟩ := ry; exact PySem.EqNone.eq_none_str (fin_bl I q (by simp))
    | _ => exact absurd (show false = true from hs) Bool.false_ne_true
  | bl i =>
    cases rx
    cases y with
    | non => cases ry; exact PySem.EqNone.eq_bool_none (fin_bl I q (by simp))
    | bl j => cases ry; exact eq_bool (fin_bl I q dec_bl)
    | str j => obtain ⟨t', rfl⟩ := ry; exact PySem.EqMixed.eq_bool_str (fin_bl I q (by simp))
    | _ => exact absurd (show false = true from hs) Bool.false_ne_true
  | int i =>
    obtain ⟨t, rfl⟩ := rx
    cases y with
    | non => cases ry; exact PySem.EqNone.eq_int_none (fin_bl I q (by simp))
    | int j => obtain ⟨t', rfl⟩ := ry; exact eq_int (fin_bl I q dec_int)
    | str j => obtain ⟨t', rfl⟩ := ry; exact PySem.EqMixed.eq_int_str (fin_bl I q (by simp))
    | _ => exact absurd (show false = true from hs) Bool.false_ne_true
  | str i =>
    obtain ⟨t, rfl⟩ := rx
    cases y with
    | non => cases ry; exact PySem.EqNone.eq_str_none (fin_bl I q (by simp))
    | bl j => cases ry; exact PySem.EqMixed.eq_str_bool (fin_bl I q (by simp))
    | int j => obtain ⟨t', rfl⟩ := ry; exact PySem.EqMixed.eq_str_int (fin_bl I q (by simp))
    | str j => obtain ⟨t', rfl⟩ := ry; exact eq_str (fin_bl I q dec_str)
    | _ => exact absurd (show false = true from hs) Bool.false_ne_true
  | byt i =>
    obtain ⟨t, rfl⟩ := rx
    cases y with
    | byt j => obtain ⟨t', rfl⟩ := ry; exact PySem.W.eq_bytes (fin_bl I q dec_byt)
    | _ => exact absurd (show false = true from hs) Bool.false_ne_true
  | _ => cases y <;> exact absurd (show false = true from hs) Bool.false_ne_true
theorem op_ne : OpR X (compareOp .NotEq) rNe := by
  intro pins s σ H x y v u Q I rx ry h
  obtain ⟨hs, q⟩ := h
  cases x with
  | non =>
    cases rx
    cases y with
    | non => cases ry; exact PySem.EqNone.ne_none_none (fin_bl I q (by simp))
    | bl j => cases ry; exact PySem.EqNone.ne_none_bool (fin_bl I q (by simp))
    | int j => obtain ⟨t', rfl⟩ := ry; exact PySem.EqNone.ne_none_int (fin_bl I q (by simp))
    | str j => obtain ⟨t', rfl⟩ := ry; exact PySem.EqNone.ne_none_str (fin_bl I q (by simp))
    | _ => exact absurd (show false = true from hs) Bool.false_ne_true
  | bl i =>
    cases rx
    cases y with
    | non => cases ry; exact PySem.EqNone.ne_bool_none (fin_bl I q (by simp))
    | bl j => cases ry; exact ne_bool (fin_bl I q (congrArg not dec_bl))
    | str j => obtain ⟨t', rfl⟩ := ry; exact PySem.EqMixed.ne_bool_str (fin_bl I q (by simp))
    | _ => exact absurd (show false = true from hs) Bool.false_ne_true
  | int i =>
    obtain ⟨t, rfl⟩ := rx
    cases y with
    | non => cases ry; exact PySem.EqNone.ne_int_none (fin_bl I q (by simp))
    | int j => obtain ⟨t', rfl⟩ := ry; exact ne_int (fin_bl I q (congrArg not dec_int))
    | str j => obtain ⟨t', rfl⟩ := ry; exact PySem.EqMixed.ne_int_str (fin_bl I q (by simp))
    | _ => exact absurd (show false = true from hs) Bool.false_ne_true
  | str i =>
    obtain ⟨t, rfl⟩ := rx
    cases y with
    | non => cases ry; exact PySem.EqNone.ne_str_none (fin_bl I q (by simp))
    | bl j => cases ry; exact PySem.EqMixed.ne_str_bool (fin_bl I q (by simp))
    | int j => obtain ⟨t', rfl⟩ := ry; exact PySem.EqMixed.ne_str_int (fin_bl I q (by simp))
    | str j => obtain ⟨t', rfl⟩ := ry; exact ne_str (fin_bl I q (congrArg not dec_str))
    | _ => exact absurd (show false = true from hs) Bool.false_ne_true
  | byt i =>
    obtain ⟨t, rfl⟩ := rx
    cases y with
    | byt j => obtain ⟨t', rfl⟩ := ry; exact PySem.W.ne_bytes (fin_bl I q (congrArg not dec_byt))
    | _ => exact absurd (show false = true from hs) Bool.false_ne_true
  | _ => cases y <;> exact absurd (show false = true from hs) Bool.false_ne_true
theorem op_lt : OpR X (compareOp .Lt) (rI0 fun i j => .bl (decide (i < j))) := opB0 fun _ _ _ _ _ _ _ q => lt_int q
theorem op_le : OpR X (compareOp .LtE) (rI0 fun i j => .bl (decide (i ≤ j))) := opB0 fun _ _ _ _ _ _ _ q => le_int q
theorem op_gt : OpR X (compareOp .Gt) (rI0 fun i j => .bl (decide (j < i))) := opB0 fun _ _ _ _ _ _ _ q => gt_int q
theorem op_ge : OpR X (compareOp .GtE) (rI0 fun i j => .bl (decide (j ≤ i))) := opB0 fun _ _ _ _ _ _ _ q => ge_int q
theorem op_isN : OpR X (compareOp .Is) (fun x y H Q => y = .non ∧ Q (.bl (decide (x = .non))) H) := by
  intro pins s σ H x y v u Q I rx ry h
  obtain ⟨rfl, q⟩ := h
  cases ry
  refine is_none_gen (fin_bl I q ?_)
  cases x <;> first
    | (cases rx; rfl)
    | (obtain ⟨t, rfl⟩ := rx; rfl)
theorem op_notN : OpR X (compareOp .IsNot) (fun x y H Q => y = .non ∧ Q (.bl (!decide (x = .non))) H) := by
  intro pins s σ H x y v u Q I rx ry h
  obtain ⟨rfl, q⟩ := h
  cases ry
  refine isnot_none_gen (fin_bl I q ?_)
  cases x <;> first
    | (cases rx; rfl)
    | (obtain ⟨t, rfl⟩ := rx; rfl)
theorem nomark (b : Expr) {op : CmpOp} (h : op ≠ .In := by decide) (h2 : op ≠ .NotIn := by decide) : behindInMarks op b = false := by
  have e1 : (op == CmpOp.In) = false := by cases op <;> first | rfl | exact absurd rfl h
  have e2 : (op == CmpOp.NotIn) = false := by cases op <;> first | rfl | exact absurd rfl h2
  cases b <;> simp [behindInMarks, e1, e2]
theorem pe_cmpR {op : CmpOp} {r : R2} (ho : OpR X (compareOp op) r) (ha : PE X a ta) (hb : PE X b tb) (hm : behindInMarks op b = false) : PE X (.Compare a [op] [b] pos) (tOp r ta tb) := by
  intro pins s σ H Q I h
  exact wpAny_Compare1 (binT ha hb I h fun v u s2 x y H2 I2 rx ry q => ho pins s2 σ H2 x y v u Q I2 rx ry q) hm
def tTest (t : TE) : TT := fun σ H Q => t σ H fun x H' => ∃ k, x = .bl k ∧ Q k H'
theorem pt_cmpR {op : CmpOp} {r : R2} (ho : OpR X (compareOp op) r) (ha : PE X a ta) (hb : PE X b tb) (hm : behindInMarks op b = false) : PT X (.Compare a [op] [b] pos) (tTest (tOp r ta tb)) := by
  intro pins s σ H Q I h
  refine wpAny_isTrue_Compare1 (thn (ha pins s σ H _ I h) fun v s1 ⟨x, H1, I1, r1, q1⟩ => thn (hb pins s1 σ H1 _ I1 q1) fun u s2 ⟨y, H2, I2, r2, q2⟩ =>
    thn (ho pins s2 σ H2 x y v u _ I2 r1 r2 q2) fun c s3 ⟨z, H3, I3, r3, k, e, q3⟩ => ?_) hm
  subst e
  cases r3
  exact wpAny_truthy_bool ⟨H3, I3, q3⟩
def tChain (r r' : R2) (ta tb tc : TE) : TE := fun σ H Q => ta σ H fun x H1 => tb σ H1 fun y H2 => r x y H2 fun z H3 => ∃ k, z = .bl k ∧
  (if k = true then tc σ H3 fun w' H4 => r' y w' H4 Q else Q (.bl false) H3)
theorem pe_chain {op op' : CmpOp} {r r' : R2} (ho : OpR X (compareOp op) r) (ho' : OpR X (compareOp op') r') (ha : PE X a ta) (hb : PE X b tb) (hc : PE X c tc)
    (hm : lastMarks [op, op'] [b, c] = false := by with_unfolding_all rfl) : PE X (.Compare a [op, op'] [b, c] pos) (tChain r r' ta tb tc) := by
  intro pins s σ H Q I h
  refine Compare_chain (thn (ha pins s σ H _ I h) fun v s1 ⟨x, H1, I1, r1, q1⟩ => chain_link (thn (hb pins s1 σ H1 _ I1 q1) fun u s2 ⟨y, H2, I2, r2, q2⟩ =>
    thn (ho pins s2 σ H2 x y v u _ I2 r1 r2 q2) fun d s3 ⟨z, H3, I3, r3, k, e, q3⟩ => ?_)) hm
  subst e
  cases r3
  refine wpAny_truthy_bool ?_
  cases k with
  | false => exact ite_ff ⟨.bl false, H3, I3, rfl, q3⟩
  | true => exact ite_tt (chain_last (thn (hc pins s3 σ H3 _ I3 q3) fun w' s4 ⟨z', H4, I4, r4, q4⟩ => ho' pins s4 σ H4 y z' u w' Q I4 r2 r4 q4))
theorem line63 : (sizeLine : Nat) < 2 ^ 63 := by rw [sizeLine_eq]; decide
theorem vals1 {x : V} {us : List Value} (r : Vals [x] us) : ∃ u, us = [u] ∧ RelV x u := by
  cases r with
  | cons r1 r2 => cases r2; exact ⟨_, rfl, r1⟩
theorem vals2 {x y : V} {us : List Value} (r : Vals [x, y] us) : ∃ u w', us = [u, w'] ∧ RelV x u ∧ RelV y w' := by
  cases r with
  | cons r1 r2 =>
    cases r2 with
    | cons r3 r4 => cases r4; exact ⟨_, _, rfl, r1, r3⟩
theorem call_min2 (hc : X.calm = true) : CallR X (.builtin "min") (fun xs H Q => ∃ i j, xs = [.int i, .int j] ∧ Q (.int (if j < i then j else i)) H) := by
  intro pins s σ H xs us Q I r h
  obtain ⟨i, j, rfl, q⟩ := h
  obtain ⟨u, w', rfl, ⟨t, rfl⟩, ⟨t', rfl⟩⟩ := vals2 r
  refine min_two_ints (I.ok.hd hc) fun h' tk k => ⟨_, H, I.kept k, ?_, q⟩
  by_cases hj : j < i
  · rw [if_pos hj, if_pos hj]; exact ⟨_, rfl⟩
  · rw [if_neg hj, if_neg hj]; exact ⟨_, rfl⟩
end
end L2
namespace L2
open PySem PySem.Spec PyProof.Rows
structure ObjM (h : Heap) (x dx C : Addr) (mA : Str → Option Value) : Prop where
  obj : h.get? x = some (PySem.W.instObj C dx)
  ns : h.Ns1 dx mA
  ne : dx ≠ x
theorem lookIn_ns {h : Heap} {dx : Addr} {mA : Str → Option Value} (n : h.Ns1 dx mA) : ∃ od, h.get? dx = some od ∧ ∀ name, PySem.W.lookIn name od = some (mA name) := by
  obtain ⟨o, es, ep, ho, hd, hk, _, hm⟩ := n
  refine ⟨o, ho, fun name => ?_⟩
  have e := hm name
  unfold nsFind findBy at e
  rw [← Array.find?_toList] at e
  unfold PySem.W.lookIn
  rw [hd]
  dsimp only
  split
  · rename_i y q
    rw [q] at e
    exact congrArg some e
  · rename_i q
    rw [q] at e
    have a : es.toList.any (·.refKey) = false := by
      rw [List.any_eq_false]
      intro y hy
      obtain ⟨z, t, hkey⟩ := hk y (Array.mem_toList_iff.mp hy)
      simp [DictEntry.refKey, hkey]
    have a' : ¬ es.toList.any (·.refKey) = true := by rw [a]; exact Bool.false_ne_true
    rw [if_neg a']
    exact congrArg some e
theorem ObjM.look {h : Heap} {x dx C : Addr} {mA : Str → Option Value} (I : ObjM h x dx C mA) : ∃ od, PySem.W.InstAt h x (PySem.W.instObj C dx) C (some od) ∧ ∀ name, PySem.W.lookIn name od = some (mA name) :=
  let ⟨od, ho, hl⟩ := lookIn_ns I.ns
  ⟨od, ⟨I.obj, rfl, rfl, ho⟩, hl⟩
section
variable {prog : Program} {w : World} {A : Around} {E : Value → Shared → Prop} {s : Shared} {K : PySem.W.Frag} {x dx C f : Addr} {mA : Str → Option Value} {name : Str} {v : Value}
theorem get_map {expr : Bool} {Q : Value → Shared → Prop} (X : K.In s.heap) (I : ObjM s.heap x dx C mA) (hg : PySem.W.plainGet K C name = true) (hh : PySem.W.hasDictIn K C = true)
    (ha : PySem.W.findIn K (.ref C) name = some none) (hv : mA name = some v) (hv' : PySem.W.handedIn v = true) (h : Q v { s with toks := s.toks + 1 }) :
    wpAny (model prog w) A (getAttr (.ref x) name expr) Q E s := by
  obtain ⟨od, J, hl⟩ := I.look
  exact PySem.W.get_value X J (PySem.W.plainGet_of hg).1 (PySem.W.findObj_own hh ha rfl (by rw [hl, hv])) hv' h
theorem get_meth {pl : Sem Bool} {Q : Value × List Value → Shared → Prop} (X : K.In s.heap) (I : ObjM s.heap x dx C mA) (hg : PySem.W.plainGet K C name = true)
    (hf : PySem.W.findIn K (.ref C) name = some (some (.ref f))) (ht : PySem.W.isFn K (.ref f) = true) (hv : mA name = none) (h : Q (.ref f, [.ref x]) s) :
    wpAny (model prog w) A (getMethod (.ref x) name pl) Q E s := by
  obtain ⟨od, J, hl⟩ := I.look
  exact PySem.W.method_fn X J (PySem.W.plainGet_of hg).1 (PySem.W.plainGet_of hg).2 hf (beq_iff_eq.mp ht) (by show (PySem.W.lookIn name od).map (·.isSome) = some false; rw [hl, hv]; rfl) h
theorem set_map {ns : List Str} {Q : Unit → Shared → Prop} (X : K.In s.heap) (I : ObjM s.heap x dx C mA)
    (hs : PySem.W.findIn K (.ref C) "__setattr__" = some (some (.builtin "object.__setattr__"))) (hp : PySem.W.plainOver K C = true) (ht : PySem.W.takerIn K C name = some none) (hh : PySem.W.hasDictIn K C = true)
    (hw : PySem.Within mA ns) (hsz : ns.length ≤ sizeLine)
    (h : ∀ h', ObjM h' x dx C (fun y => if y = name then some v else mA y) → Heap.SameBut dx s.heap h' → Q () { s with heap := h', toks := s.toks + 2 }) :
    wpAny (model prog w) A (setAttr (.ref x) name v) Q E s := by
  obtain ⟨od, J, hl⟩ := I.look
  refine PySem.W.set_plain X J hs (PySem.W.osa_open (s := { s with toks := s.toks + 1 }) (r := none) X J hp ht fun b => ?_)
  obtain ⟨cd, hc, hd'⟩ := PySem.W.any_some hh
  have hx : s.heap.get? x = some ⟨.ref C, some dx, .plain, #[]⟩ := I.obj
  refine wpAny_bind (wpAny_pure (wpAny_bind (wpAny_bind (wpAny_loadPart hx (wpAny_bind (PySem.W.Looks.here (s := { s with toks := s.toks + 1 }) (PySem.W.looks_clsIn X hc) ?_))))))
  rw [hd']
  refine wpAny_pure (a := some dx) (wpAny_bind (wpAny_pure (wpAny_bind ?_)))
  refine wpAny_nsSet1 (s := { s with toks := s.toks + 1 }) I.ns fun h' hn2 hs2 => ?_
  obtain ⟨oD, esD, epD, hoD, hdD, hcD⟩ := hn2.count (PySem.Within.cons name v hw)
  refine wpAny_bind (wpAny_lookBehind hoD (by rw [hdD]; exact pastItsLine_dict (Nat.le_trans hcD (by rw [List.length_cons]; omega))) ?_)
  exact wpAny_pure (h _ ⟨(hs2.2 _ (Ne.symm I.ne)).trans I.obj, hn2, I.ne⟩ hs2)
theorem make_map {R : Result → Shared → Prop} {vs : List Value} {kw : List (Str × Value)} (X : K.In s.heap) (hm : PySem.W.makesIn K C = true)
    (hi : PySem.W.findIn K (.ref C) "__init__" = some (some (.ref f))) (hf : PySem.W.typeIn K (.ref f) = some (.type "function"))
    (h : codeAny (model prog w) (A.under (.builtin "type.__call__" ⟨.ref C :: vs, kw⟩)) (.call (.ref f) ⟨.ref (s.heap.objs.size + 1) :: vs, kw⟩) (PySem.W.InitBack (s.heap.objs.size + 1) R)
      { s with heap := (s.heap.push PySem.W.emptyDict).push (PySem.W.instObj C s.heap.objs.size) }) :
    codeAny (model prog w) A (.call (.ref C) ⟨vs, kw⟩) R s := by
  obtain ⟨hh, g, d, t, os⟩ := s
  exact PySem.W.make_core (PySem.W.makes_of X hm) (PySem.W.looks_findIn X hi) (fun self => PySem.W.bind_fn X self hf) (.inl rfl) h
end
def putF (f : Str) (v : V) : List (Str × V) → List (Str × V)
  | [] => [(f, v)]
  | (g, x) :: r => if g = f then (g, v) :: r else (g, x) :: putF f v r
theorem lookup_putF (f g : Str) (v : V) : ∀ fs : List (Str × V), (putF f v fs).lookup g = if g = f then some v else fs.lookup g
  | [] => by
    show List.lookup g [(f, v)] = _
    by_cases h : g = f
    · have hb : (g == f) = true := beq_iff_eq.mpr h
      simp only [List.lookup, hb, if_pos h]
    · have hb : (g == f) = false := beq_eq_false_iff_ne.mpr h
      simp only [List.lookup, hb, if_neg h]
  | (k, x) :: r => by
    have ih := lookup_putF f g v r
    rw [show putF f v ((k, x) :: r) = (if k = f then (k, v) :: r else (k, x) :: putF f v r) from rfl]
    by_cases hk : k = f
    · rw [if_pos hk]
      by_cases h : g = k
      · have hb : (g == k) = true := beq_iff_eq.mpr h
        simp only [List.lookup, hb, if_pos (h.trans hk)]
      · have hb : (g == k) = false := beq_eq_false_iff_ne.mpr h
        simp only [List.lookup, hb, if_neg (fun e : g = f => h (e.trans hk.symm))]
    · rw [if_neg hk]
      by_cases h : g = k
      · have hb : (g == k) = true := beq_iff_eq.mpr h
        simp only [List.lookup, hb, if_neg (fun e : g = f => hk (h.symm.trans e))]
      · have hb : (g == k) = false := beq_eq_false_iff_ne.mpr h
        simp only [List.lookup, hb]
        exact ih
theorem keys_putF (f : Str) (v : V) : ∀ fs : List (Str × V), f ∈ (putF f v fs).map (·.1) ∧ ∀ g, g ∈ fs.map (·.1) → g ∈ (putF f v fs).map (·.1)
  | [] => ⟨by simp [putF], fun g h => by simp at h⟩
  | (k, x) :: r => by
    obtain ⟨i1, i2⟩ := keys_putF f v r
    rw [show putF f v ((k, x) :: r) = (if k = f then (k, v) :: r else (k, x) :: putF f v r) from rfl]
    by_cases hk : k = f
    · rw [if_pos hk]
      subst hk
      exact ⟨by simp, fun g h => by simpa using h⟩
    · rw [if_neg hk]
      refine ⟨?_, fun g h => ?_⟩
      · rw [List.map_cons]
        exact List.mem_cons_of_mem _ i1
      · rw [List.map_cons] at h ⊢
        rcases List.mem_cons.mp h with e | e
        · exact List.mem_cons.mpr (.inl e)
        · exact List.mem_cons_of_mem _ (i2 g e)
theorem length_putF (f : Str) (v : V) : ∀ fs : List (Str × V), (putF f v fs).length ≤ fs.length + 1
  | [] => by simp [putF]
  | (k, x) :: r => by
    have ih := length_putF f v r
    rw [show putF f v ((k, x) :: r) = (if k = f then (k, v) :: r else (k, x) :: putF f v r) from rfl]
    by_cases hk : k = f
    · rw [if_pos hk, List.length_cons, List.length_cons]; omega
    · rw [if_neg hk, List.length_cons, List.length_cons]; omega
theorem RelO.some_of {v : V} {o : Option Value} (r : RelO (some v) o) : ∃ u, o = some u ∧ RelV v u := by
  cases o with
  | none => exact (show False from r).elim
  | some u => exact ⟨u, rfl, r⟩
theorem RelO.none_of {o : Option Value} (r : RelO none o) : o = none := by
  cases o with
  | none => rfl
  | some u => exact (show False from r).elim
theorem handed_of {v : V} {u : Value} (r : RelV v u) : PySem.W.handedIn u = true := by
  cases v with
  | non => cases (show u = Value.none from r); rfl
  | bl b => cases (show u = Value.bool b from r); rfl
  | int i => obtain ⟨t, e⟩ := (show ∃ t, u = Value.int i t from r); cases e; rfl
  | str x => obtain ⟨t, e⟩ := (show ∃ t, u = Value.str x t from r); cases e; rfl
  | byt b => obtain ⟨t, e⟩ := (show ∃ t, u = Value.bytes b t from r); cases e; rfl
  | flt b => obtain ⟨t, e⟩ := (show ∃ t, u = Value.float b t from r); cases e; rfl
  | ref a => cases (show u = Value.ref a from r); rfl
  | ty n => cases (show u = Value.type n from r); rfl
section
variable {P : Program} {w : World} {H H' : Hp} {h h' : Heap} {a C dx : Addr} {fs fs' : List (Str × V)}
theorem ins_get (hok : HOk P w H h) (e : H a = some (.ins C dx fs)) : ∃ mA, ObjM h a dx C mA ∧ (∀ f, RelO (fs.lookup f) (mA f)) ∧ PySem.Within mA (fs.map (·.1)) ∧ fs.length ≤ 1000 ∧ H dx = some (.own a) := by
  obtain ⟨d, z, ne, ob, mA, n, r, q⟩ := (show ObjOk P w H h a (.ins C dx fs) from hok a _ e)
  exact ⟨mA, ⟨ob, n, ne⟩, r, q, z, d⟩
end
structure Cls (K : PySem.W.Frag) (C : Addr) : Prop where
  pg : PySem.W.plainGet K C Str.empty = true
  hd : PySem.W.hasDictIn K C = true
  po : PySem.W.plainOver K C = true
  sa : PySem.W.findIn K (.ref C) "__setattr__" = some (some (.builtin "object.__setattr__"))
theorem Cls.get {K : PySem.W.Frag} {C : Addr} (c : Cls K C) (f : Str) : PySem.W.plainGet K C f = true := c.pg
def NoAttr (K : PySem.W.Frag) (C : Addr) (f : Str) : Prop := PySem.W.findIn K (.ref C) f = some none
theorem NoAttr.taker {K : PySem.W.Frag} {C : Addr} {f : Str} (n : NoAttr K C f) : PySem.W.takerIn K C f = some none := by
  unfold PySem.W.takerIn
  rw [show PySem.W.findIn K (.ref C) f = some none from n]
  rfl
structure Meth (K : PySem.W.Frag) (C : Addr) (m : Str) (f : Addr) : Prop where
  at_ : PySem.W.findIn K (.ref C) m = some (some (.ref f))
  fn : PySem.W.isFn K (.ref f) = true
  kp : PySem.W.keepIn K (.ref f) = true
section
variable {X : Cx} {pins : List (Addr × Obj)} {σ : St} {H : Hp} {s : Shared} {a C dx : Addr} {fs : List (Str × V)} {f : Str} {v : V} {A : Around} {E : Value → Shared → Prop}
theorem getattr_ok {b : Bool} {Q : Value → Shared → Prop} (I : Inv X pins σ H s) (e : H a = some (.ins C dx fs)) (c : Cls X.K C) (n : NoAttr X.K C f) (l : fs.lookup f = some v)
    (h : ∀ u s', Inv X pins σ H s' → RelV v u → Q u s') : wpAny (model X.prog X.w) A (getAttr (.ref a) f b) Q E s := by
  obtain ⟨mA, O, r, _, _, _⟩ := ins_get I.hok e
  obtain ⟨u, hu, ru⟩ := RelO.some_of (v := v) (o := mA f) (by rw [← l]; exact r f)
  exact get_map I.kIn O (c.get f) c.hd n hu (handed_of ru) (h u _ (I.tok _) ru)
theorem getmeth_ok {m : Str} {g : Addr} {pl : Sem Bool} {Q : Value × List Value → Shared → Prop} (I : Inv X pins σ H s) (e : H a = some (.ins C dx fs)) (c : Cls X.K C) (k : Meth X.K C m g) (l : fs.lookup m = none)
    (h : Q (.ref g, [.ref a]) s) : wpAny (model X.prog X.w) A (getMethod (.ref a) m pl) Q E s := by
  obtain ⟨mA, O, r, _, _, _⟩ := ins_get I.hok e
  have hn : mA m = none := RelO.none_of (by rw [← l]; exact r m)
  exact get_meth I.kIn O (c.get m) k.at_ k.fn hn h
theorem setattr_ok {y : V} {u : Value} {Q : Unit → Shared → Prop} (I : Inv X pins σ H s) (e : H a = some (.ins C dx fs)) (c : Cls X.K C) (n : NoAttr X.K C f) (hl : fs.length < 1000) (ry : RelV y u)
    (h : ∀ s', Inv X pins σ (upd H a (.ins C dx (putF f y fs))) s' → Q () s') : wpAny (model X.prog X.w) A (setAttr (.ref a) f u) Q E s := by
  obtain ⟨mA, O, r, wi, _, ho⟩ := ins_get I.hok e
  have hz : (fs.map (·.1)).length ≤ sizeLine := by rw [List.length_map, sizeLine_eq]; omega
  refine set_map I.kIn O c.sa c.po n.taker c.hd wi hz fun h' O' sb => h _ ?_
  have hd : ∃ o, h'.get? dx = some o := let ⟨o, _, _, e', _⟩ := O'.ns; ⟨o, e'⟩
  refine I.write (x := a) (e := dx) (by rw [e]; exact True.intro) (.inr ho) (fun b q hb z => (sb.2 b hb).trans z) hd ?_
  refine ⟨by rw [upd_ne O.ne]; exact ho, ?_, O.ne, O'.obj, _, O'.ns, fun g => ?_, fun g hg => ?_⟩
  · have := length_putF f y fs; omega
  · show RelO ((putF f y fs).lookup g) (if g = f then some u else mA g)
    rw [lookup_putF]
    by_cases q : g = f
    · rw [if_pos q, if_pos q]; exact ry
    · rw [if_neg q, if_neg q]; exact r g
  · by_cases q : g = f
    · rw [q]; exact (keys_putF f y fs).1
    · refine (keys_putF f y fs).2 g (wi g fun z => hg ?_)
      show (if g = f then some u else mA g) = none
      rw [if_neg q]; exact z
theorem Inv.made (I : Inv X pins σ H s) : Inv X pins σ (upd (upd H s.heap.objs.size (.own (s.heap.objs.size + 1))) (s.heap.objs.size + 1) (.ins C s.heap.objs.size []))
    { s with heap := (s.heap.push PySem.W.emptyDict).push (PySem.W.instObj C s.heap.objs.size) } := by
  have e1 : (s.heap.push PySem.W.emptyDict).get? s.heap.objs.size = some PySem.W.emptyDict := Heap.get?_push_size s.heap rfl
  have e2 : ((s.heap.push PySem.W.emptyDict).push (PySem.W.instObj C s.heap.objs.size)).get? (s.heap.objs.size + 1) = some (PySem.W.instObj C s.heap.objs.size) := by
    have := Heap.get?_push_size (s.heap.push PySem.W.emptyDict) (o := PySem.W.instObj C s.heap.objs.size) rfl
    rwa [Heap.size_push] at this
  have e3 : (s.heap.push PySem.W.emptyDict).Ns s.heap.objs.size (fun _ => none) := ⟨PySem.W.emptyDict, #[], _, e1, rfl, (fun e he => absurd he (by simp)), fun _ => rfl⟩
  have I1 := I.laid (a := s.heap.objs.size) (o := .own (s.heap.objs.size + 1)) (h' := s.heap.push PySem.W.emptyDict) (t' := s.toks) (fun b u q => Heap.get?_push_of_some _ q) (Nat.le_refl _) ⟨_, e1⟩
  refine I1.laid (a := s.heap.objs.size + 1) (o := .ins C s.heap.objs.size []) (t' := s.toks) (fun b u q => Heap.get?_push_of_some _ q) (Nat.le_of_eq (Heap.size_push _ _)) ?_
  have ne : s.heap.objs.size ≠ s.heap.objs.size + 1 := Nat.ne_of_lt (Nat.lt_succ_self _)
  refine ⟨by rw [upd_ne ne, upd_same], Nat.zero_le _, ne, e2, fun _ => none, (Heap.Ns1.of_empty e3).at fun o q => Heap.get?_push_of_some _ q, fun _ => True.intro, fun y hy => absurd rfl hy⟩
theorem attr_of {prog : Program} {w : World} {env : Env} {e : Expr} {f : Str} {pos : Pos} {s : Shared} {Q : Value → Shared → Prop} (hb : attributeBase e f env (eval e env) = eval e env)
    (h : wpAny (model prog w) A (eval e env) (fun o s₁ => wpAny (model prog w) A (getAttr o f true) Q E s₁) E s) : wpAny (model prog w) A (eval (.Attribute e f pos) env) Q E s :=
  Attribute_any_ h (by rw [arm_eval_Attribute, hb])
end
def tFld (K : PySem.W.Frag) (ta : TE) (f : Str) : TE := fun σ H Q => ta σ H fun x H1 => ∃ a C dx fs v, x = .ref a ∧ H1 a = some (.ins C dx fs) ∧ Cls K C ∧ NoAttr K C f ∧ fs.lookup f = some v ∧ Q v H1
def sFld (K : PySem.W.Frag) (ta tv : TE) (f : Str) : TS := fun D σ H => tv σ H fun y H1 => ta σ H1 fun x H2 => ∃ a C dx fs, x = .ref a ∧ H2 a = some (.ins C dx fs) ∧ Cls K C ∧ NoAttr K C f ∧ fs.length < 1000 ∧
  D.nx σ (upd H2 a (.ins C dx (putF f y fs)))
section
variable {X : Cx} {o e value : Expr} {f : Str} {pos pos' tpos : Pos} {ta tv : TE}
theorem pe_fld (he : PE X e ta) (hb : attributeBase e f X.env (eval e X.env) = eval e X.env) : PE X (.Attribute e f pos) (tFld X.K ta f) := by
  intro pins s σ H Q I h
  refine attr_of hb (thn (he pins s σ H _ I h) fun u s1 ⟨x, H1, I1, rx, a, C, dx, fs, v, ex, ea, c, n, l, q⟩ => ?_)
  subst ex
  obtain rfl : u = Value.ref a := rx
  exact getattr_ok I1 ea c n l fun u' s2 I2 ru => ⟨v, H1, I2, ru, q⟩
theorem ps_fld (ha : PE X o ta) (hv : PE X value tv) (hs : swapsWith value (some (.Attribute o f pos')) pos.line X.env = pure false) : PS X (.Assign [.Attribute o f pos'] value pos) (sFld X.K ta tv f) := by
  intro pins s σ H D I h
  refine plainObj_wpAny_Assign_Attribute (thn (hv pins s σ H _ I h) fun u s1 ⟨y, H1, I1, ry, q⟩ => thn (ha pins s1 σ H1 _ I1 q) fun ov s2 ⟨x, H2, I2, rx, a, C, dx, fs, ex, ea, c, n, l, q2⟩ => ?_) hs
  subst ex
  obtain rfl : ov = Value.ref a := rx
  exact setattr_ok I2 ea c n l ry fun s3 I3 => ⟨σ, _, I3, q2⟩
theorem methcall_of {pl : Sem Bool} {m : Str} {apos : Pos} {args : List Expr} {pins : List (Addr × Obj)} {s : Shared} {σ : St} {H : Hp} {Q : Value → Shared → Prop} {te : TE} (he : PE X e te) (I : Inv X pins σ H s)
    (h : te σ H fun x H1 => ∃ a C dx fs g, x = .ref a ∧ H1 a = some (.ins C dx fs) ∧ Cls X.K C ∧ Meth X.K C m g ∧ fs.lookup m = none ∧
      ∀ s1, Inv X pins σ H1 s1 → wpAny (model X.prog X.w) X.A (callWith pos (.ref g) [.ref a] (backTo pos (starEach args X.env)) (backToKw pos (keywordEach [] X.env))) Q X.xe s1)
    (ht : eval (.Call (.Attribute e m apos) args [] pos) X.env = (do
      let ov ← eval e X.env
      standAt apos.atName
      let (f, first) ← holding [ov] (getMethod ov m pl)
      callWith pos f first (backTo pos (starEach args X.env)) (backToKw pos (keywordEach [] X.env)))) :
    wpAny (model X.prog X.w) X.A (eval (.Call (.Attribute e m apos) args [] pos) X.env) Q X.xe s := by
  refine PySem.W.methodCall_KW (pl := pl) (thn (he pins s σ H _ I h) fun u s1 ⟨x, H1, I1, rx, a, C, dx, fs, g, ex, ea, c, k, l, q⟩ => ?_) ht
  subst ex
  obtain rfl : u = Value.ref a := rx
  exact getmeth_ok I1 ea c k l (q s1 I1)
end
section
variable {X : Cx} {pins : List (Addr × Obj)} {σ : St} {H : Hp} {s : Shared} {A : Around} {E : Value → Shared → Prop} {Q : Value → Shared → Prop} {c : Value} {b : Bool}
end
end L2
namespace L2
open PySem PySem.Spec PyProof.Rows
structure Room (k : Nat) (A : Around) : Prop where
  hd : A.handled = none
  dp : A.depth + 3 * k + 5 < recursionLimit
  un : A.units + 16 * k + 200 < cLine
theorem Room.mono {j k : Nat} {A : Around} (r : Room k A) (h : j ≤ k) : Room j A := ⟨r.hd, by have := r.dp; omega, by have := r.un; omega⟩
theorem Room.deeper {k : Nat} {A : Around} (r : Room (k + 1) A) (env : Env) : Room k (A.deeper env) :=
  ⟨r.hd, by have := r.dp; show A.depth + 1 + 3 * k + 5 < _; omega, by have := r.un; show A.units + 3 + 16 * k + 200 < _; omega⟩
theorem make_depth {A : Around} {C : Addr} {us : List Value} {kw : List (Str × Value)} : (A.under (.builtin "type.__call__" ⟨.ref C :: us, kw⟩)).depth = A.depth + 1 := by
  first | rfl | simp [Around.under, Code.weight, Code.isCreation, Code.isGuard, Code.isCaller, Code.frames, Code.isFrame, guardIds]
theorem make_units {A : Around} {C : Addr} {us : List Value} {kw : List (Str × Value)} : (A.under (.builtin "type.__call__" ⟨.ref C :: us, kw⟩)).units = A.units + 1 := by
  first | rfl | simp [Around.under, Code.cUnits, Code.frames, Code.isFrame]
theorem Room.make {k : Nat} {A : Around} (r : Room (k + 1) A) (C : Addr) (us : List Value) (kw : List (Str × Value)) : Room k (A.under (.builtin "type.__call__" ⟨.ref C :: us, kw⟩)) :=
  ⟨r.hd, by have := r.dp; rw [make_depth]; omega, by have := r.un; rw [make_units]; omega⟩
theorem Room.depth {k : Nat} {A : Around} (r : Room k A) : A.depth < recursionLimit := by have := r.dp; omega
def tNil : TA := fun _ H Q => Q [] H
def tCons (ta : TE) (tr : TA) : TA := fun σ H Q => ta σ H fun x H1 => tr σ H1 fun xs H2 => Q (x :: xs) H2
section
variable {X : Cx} {e : Expr} {es : List Expr} {te : TE} {t : TA} {pos : Pos}
theorem pa_nil : PA X [] tNil := fun _ _ _ _ H Q I h => Calls.spliced_nil ⟨[], H, I, .nil, h⟩
theorem pa_cons (ha : PE X e te) (hr : PA X es t) (hs : starEach (e :: es) X.env = (false, eval e X.env) :: starEach es X.env := by rfl) : PA X (e :: es) (tCons te t) := by
  intro pos pins s σ H Q I h
  rw [hs]
  show wpAny _ _ (spliced ((false, eval e X.env) :: backTo pos (starEach es X.env))) _ _ s
  refine Calls.spliced_cons (thn (ha pins s σ H _ I h) fun u s1 ⟨x, H1, I1, r1, q1⟩ => ?_)
  exact thn (hr pos pins s1 σ H1 _ I1 q1) fun us s2 ⟨xs, H2, I2, r2, q2⟩ => ⟨x :: xs, H2, I2, .cons r1 r2, q2⟩
def tTup (t : TA) : TE := fun σ H Q => t σ H fun xs H1 => xs.length ≤ sizeLine ∧ ∀ p, H1 p = none → Q (.ref p) (upd H1 p (.tup xs))
def tLst (t : TA) : TE := fun σ H Q => t σ H fun xs H1 => xs.length ≤ sizeLine ∧ ∀ p, H1 p = none → Q (.ref p) (upd H1 p (.lst xs))
theorem pe_tup {x1} (h : PA X es t) : PE X (.Tuple es x1 pos) (tTup t) := by
  intro pins s σ H Q I hq
  refine wpAny_Tuple_spliced (thn (h pos pins s σ H _ I hq) fun us s1 ⟨xs, H1, I1, r, z, q⟩ => ⟨by rw [← r.length]; exact z, ?_⟩)
  have hf : H1 s1.heap.objs.size = none := I1.hok.fresh (Nat.le_refl _)
  refine ⟨.ref s1.heap.objs.size, upd H1 s1.heap.objs.size (.tup xs), I1.laid (t' := s1.toks) (fun b u e => Heap.get?_push_of_some _ e) (Nat.le_refl _) ?_, rfl, q _ hf⟩
  exact ⟨z, us, r, ⟨_, Heap.get?_push_size _ rfl, rfl, _, rfl⟩⟩
theorem pe_lst (h : PA X es t) : PE X (.List es pos) (tLst t) := by
  intro pins s σ H Q I hq
  refine wpAny_List_spliced (thn (h pos pins s σ H _ I hq) fun us s1 ⟨xs, H1, I1, r, z, q⟩ => ⟨by rw [← r.length]; exact z, ?_⟩)
  have hf : H1 s1.heap.objs.size = none := I1.hok.fresh (Nat.le_refl _)
  refine ⟨.ref s1.heap.objs.size, upd H1 s1.heap.objs.size (.lst xs), I1.laid (t' := s1.toks) (fun b u e => Heap.get?_push_of_some _ e) (Nat.le_refl _) ?_, rfl, q _ hf⟩
  exact ⟨z, us, 0, r, Heap.get?_push_size _ rfl⟩
end
abbrev Sp := List V → Hp → VK → XK → Prop
abbrev CXT := List Env → Hp → Shared → XK → Value → Shared → Prop
structure Env0 (P : Program) (w : World) (K : PySem.W.Frag) (mg : Str → Option Value) (base : Heap) (A : Around) (outer : List Env) (s : Shared) (H : Hp) : Prop where
  frames : A.frames = some outer
  mod : Mod K mg base
  bs : ∀ b o, base.get? b = some o → s.heap.get? b = some o ∧ H b = none
  bsz : base.objs.size ≤ s.heap.objs.size
  funs : s.heap.FunFrames base outer
  frf : ∀ b ∈ frs outer, H b = none
  hok : HOk P w H s.heap
  bare : AllBare s.gens
def CE (outer : List Env) (P : Program) (w : World) (H : Hp) (s : Shared) (Q : VK) (u : Value) (s' : Shared) : Prop :=
  ∃ v H', s'.os = s.os ∧ AllBare s'.gens ∧ Un (frs outer) [] H H' s.heap s'.heap ∧ HOk P w H' s'.heap ∧ RelV v u ∧ Q v H'
def CR (CX : CXT) (outer : List Env) (P : Program) (w : World) (H : Hp) (s : Shared) (Q : VK) (E : XK) (r : Result) (s' : Shared) : Prop :=
  match r with
  | .ok (.ret u) => CE outer P w H s Q u s'
  | .ok _ => False
  | .error e => CX outer H s E e s'
structure FnOk (P : Program) (w : World) (K : PySem.W.Frag) (mg : Str → Option Value) (base : Heap) (CX : CXT) (k : Nat) (f : Addr) (fd : FuncData) (ps : List Str) (sp : Sp) : Prop where
  len : ∀ vs H Q E, sp vs H Q E → vs.length = ps.length
  run : ∀ (A : Around) (outer : List Env) (s : Shared) (H : Hp) (args : Args) (us : List Value) (vs : List V) (Q : VK) (E : XK), Room k A → Env0 P w K mg base A outer s H → BindsTo s fd args (ps.zip us) → Vals vs us → sp vs H Q E →
    codeAny (model P w) A (.call (.ref f) args) (CR CX outer P w H s Q E) s
theorem Env0.make {P : Program} {w : World} {K : PySem.W.Frag} {mg : Str → Option Value} {base : Heap} {A : Around} {outer : List Env} {s : Shared} {H : Hp} (e : Env0 P w K mg base A outer s H) (C : Addr) (us : List Value) (kw : List (Str × Value)) :
    Env0 P w K mg base (A.under (.builtin "type.__call__" ⟨.ref C :: us, kw⟩)) outer s H := ⟨by first | exact e.frames | (simpa [Around.under, Code.envs, Code.isFrame, pushEnvs] using e.frames), e.mod, e.bs, e.bsz, e.funs, e.frf, e.hok, e.bare⟩
section
variable {X : Cx} {pins : List (Addr × Obj)} {σ : St} {H : Hp} {s s' : Shared}
theorem Inv.env0 (I : Inv X pins σ H s) : Env0 X.prog X.w X.K X.mg X.base X.A X.stack s H :=
  ⟨I.ok.frames, I.ok.mod, I.bs, Nat.le_trans I.ok.bsz I.sz, I.stack, I.stkFree, I.hok, I.bare⟩
theorem Inv.after {Q : VK} {u : Value} (I : Inv X pins σ H s) (h : CE X.stack X.prog X.w H s Q u s') : EP X pins σ Q u s' := by
  obtain ⟨v, H', os, bare, un, hok, r, q⟩ := h
  obtain ⟨hh, g, d, t, os'⟩ := s'
  obtain rfl : os' = s.os := os
  exact ⟨v, H', I.call (h' := hh) (g' := g) (d' := d) (t' := t) (ch := []) un hok bare (fun b z => absurd z (by simp)), r, q⟩
end
def tCall (sp : Sp) (dvs : List V) (E : XK) (t : TA) : TE := fun σ H Q => t σ H fun vs H1 => sp (vs ++ dvs) H1 Q E
def tMeth (C : Addr) (m : Str) (sp : Sp) (dvs : List V) (E : XK) (ta : TE) (t : TA) : TE := fun σ H Q => ta σ H fun x H1 => ∃ a dx fs, x = .ref a ∧ H1 a = some (.ins C dx fs) ∧ fs.lookup m = none ∧
  t σ H1 fun vs H2 => sp (x :: (vs ++ dvs)) H2 Q E
def tMake (C : Addr) (sp : Sp) (dvs : List V) (E : XK) (t : TA) : TE := fun σ H Q => t σ H fun vs H1 => ∀ x dx, H1 x = none → H1 dx = none → dx ≠ x →
  sp (.ref x :: (vs ++ dvs)) (upd (upd H1 dx (.own x)) x (.ins C dx [])) (fun v H2 => v = .non ∧ Q (.ref x) H2) E
def Binds (K : PySem.W.Frag) (fd : FuncData) (ps : List Str) (ds : List Value) : Prop :=
  ∀ (s : Shared) (us : List Value), K.In s.heap → (us ++ ds).length = ps.length → BindsTo s fd ⟨us, []⟩ (ps.zip (us ++ ds))
theorem Binds.all {K : PySem.W.Frag} {fd : FuncData} {ps : List Str} (h : ∀ us : List Value, us.length = ps.length → bindArgs fd ⟨us, []⟩ = pure (ps.zip us)) : Binds K fd ps [] := fun s us _ hl => by
  rw [List.append_nil] at hl ⊢
  exact .of_eq (h us hl)
def Passes (CX : CXT) (X : Cx) (E : XK) : Prop := ∀ (pins : List (Addr × Obj)) (σ : St) (H : Hp) (s : Shared) (e : Value) (s' : Shared), Inv X pins σ H s → CX X.stack H s E e s' → X.xe e s'
section
variable {X : Cx} {CX : CXT} {k : Nat} {f C : Addr} {fd : FuncData} {ps : List Str} {sp : Sp} {dvs : List V} {ds : List Value} {E : XK} {x m : Str} {p pos apos : Pos} {e o : Expr} {es : List Expr} {ta : TE} {t : TA}
theorem run_fn {pins : List (Addr × Obj)} {σ : St} {H : Hp} {s : Shared} {Q : VK} {us : List Value} {vs : List V} (F : FnOk X.prog X.w X.K X.mg X.base CX k f fd ps sp) (hr : Room k X.A) (hb : Binds X.K fd ps ds) (hd : Vals dvs ds) (hx : Passes CX X E)
    (I : Inv X pins σ H s) (r : Vals vs us) (h : sp (vs ++ dvs) H Q E) : wpAny (model X.prog X.w) X.A (call (.ref f) us) (EP X pins σ Q) X.xe s := by
  have r2 : Vals (vs ++ dvs) (us ++ ds) := r.append hd
  have hl : (us ++ ds).length = ps.length := by rw [← r2.length]; exact F.len _ _ _ _ h
  refine wpAny_call (codeAny_mono (F.run X.A X.stack s H ⟨us, []⟩ (us ++ ds) (vs ++ dvs) Q E hr I.env0 (hb s us I.kIn hl) r2 h) fun r s' hq => ?_)
  cases r with
  | error e => exact hx pins σ H s e s' I hq
  | ok fl =>
    cases fl with
    | ret u => exact I.after hq
    | next => exact False.elim hq
    | brk => exact False.elim hq
    | cont => exact False.elim hq
theorem pe_call (F : FnOk X.prog X.w X.K X.mg X.base CX k f fd ps sp) (hr : Room k X.A) (hg : Gl X x) (hm : X.mg x = some (.ref f)) (hk : PySem.W.keepIn X.K (.ref f) = true) (hb : Binds X.K fd ps ds) (hd : Vals dvs ds) (hx : Passes CX X E)
    (ha : PA X (e :: es) t) (hdb : (x == ("__debug__" : Str)) = false := by decide) (he : starEach (e :: es) X.env = (false, eval e X.env) :: starEach es X.env := by rfl) (hpl : (backTo pos (starEach es X.env)).any (·.1) = false := by rfl) :
    PE X (.Call (.Name x p) (e :: es) [] pos) (tCall sp dvs E t) := by
  intro pins s σ H Q I h
  refine wpAny_Call_Name_kw (ld_glob I hg hm ?_ hdb)
  refine PySem.W.callWith_K (h₀ := X.base) I.ok.mod.kin hk (thn (ha pos pins s σ H _ I h) fun us s1 ⟨vs, H1, I1, r, q⟩ => ⟨I1.kIn, ?_⟩) he hpl
  exact run_fn F hr hb hd hx I1 r q
theorem pe_meth {pl : Sem Bool} (he : PE X o ta) (c : Cls X.K C) (hm : Meth X.K C m f) (F : FnOk X.prog X.w X.K X.mg X.base CX k f fd ps sp) (hr : Room k X.A) (hb : Binds X.K fd ps ds) (hd : Vals dvs ds) (hx : Passes CX X E) (ha : PA X (e :: es) t)
    (hst : starEach (e :: es) X.env = (false, eval e X.env) :: starEach es X.env := by rfl) (hpl : (backTo pos (starEach es X.env)).any (·.1) = false := by rfl)
    (ht : eval (.Call (.Attribute o m apos) (e :: es) [] pos) X.env = (do
      let ov ← eval o X.env
      standAt apos.atName
      let (f, first) ← holding [ov] (getMethod ov m pl)
      callWith pos f first (backTo pos (starEach (e :: es) X.env)) (backToKw pos (keywordEach [] X.env))) := by rfl) :
    PE X (.Call (.Attribute o m apos) (e :: es) [] pos) (tMeth C m sp dvs E ta t) := by
  intro pins s σ H Q I h
  refine PySem.W.methodCall_KW (pl := pl) (thn (he pins s σ H _ I h) fun u s1 ⟨x, H1, I1, rx, a, dx, fs, ex, ea, l, q⟩ => ?_) ht
  subst ex
  obtain rfl : u = Value.ref a := rx
  refine getmeth_ok I1 ea c hm l ?_
  refine PySem.W.callWith_K (first := [.ref a]) (h₀ := X.base) I.ok.mod.kin hm.kp (thn (ha pos pins s1 σ H1 _ I1 q) fun us s2 ⟨vs, H2, I2, r, q2⟩ => ⟨I2.kIn, ?_⟩) hst hpl
  exact run_fn (us := .ref a :: us) (vs := .ref a :: vs) F hr hb hd hx I2 (.cons rfl r) q2
theorem pe_meth0 {pl : Sem Bool} (he : PE X o ta) (c : Cls X.K C) (hm : Meth X.K C m f) (F : FnOk X.prog X.w X.K X.mg X.base CX k f fd ps sp) (hr : Room k X.A) (hb : Binds X.K fd ps ds) (hd : Vals dvs ds) (hx : Passes CX X E)
    (ht : eval (.Call (.Attribute o m apos) [] [] pos) X.env = (do
      let ov ← eval o X.env
      standAt apos.atName
      let (f, first) ← holding [ov] (getMethod ov m pl)
      callWith pos f first (backTo pos (starEach [] X.env)) (backToKw pos (keywordEach [] X.env))) := by rfl) :
    PE X (.Call (.Attribute o m apos) [] [] pos) (tMeth C m sp dvs E ta tNil) := by
  intro pins s σ H Q I h
  refine PySem.W.methodCall_KW (pl := pl) (thn (he pins s σ H _ I h) fun u s1 ⟨x, H1, I1, rx, a, dx, fs, ex, ea, l, q⟩ => ?_) ht
  subst ex
  obtain rfl : u = Value.ref a := rx
  refine getmeth_ok I1 ea c hm l ?_
  exact PySem.W.callWith_K0 (first := [.ref a]) I1.kIn hm.kp (run_fn (us := [.ref a]) (vs := [.ref a]) F hr hb hd hx I1 (.cons rfl .nil) q)
structure Mk (K : PySem.W.Frag) (C f : Addr) : Prop where
  makes : PySem.W.makesIn K C = true
  init : PySem.W.findIn K (.ref C) "__init__" = some (some (.ref f))
  fn : PySem.W.isFn K (.ref f) = true
  kp : PySem.W.keepIn K (.ref C) = true
theorem run_make {pins : List (Addr × Obj)} {σ : St} {H : Hp} {s : Shared} {Q : VK} {us : List Value} {vs : List V} (M : Mk X.K C f) (F : FnOk X.prog X.w X.K X.mg X.base CX k f fd ps sp) (hr : Room (k + 1) X.A) (hb : Binds X.K fd ps ds) (hd : Vals dvs ds)
    (hx : Passes CX X E) (I : Inv X pins σ H s) (r : Vals vs us)
    (h : ∀ x dx, H x = none → H dx = none → dx ≠ x → sp (.ref x :: (vs ++ dvs)) (upd (upd H dx (.own x)) x (.ins C dx [])) (fun v H2 => v = .non ∧ Q (.ref x) H2) E) :
    wpAny (model X.prog X.w) X.A (call (.ref C) us) (EP X pins σ Q) X.xe s := by
  have hq := h (s.heap.objs.size + 1) s.heap.objs.size (I.hok.fresh (Nat.le_succ _)) (I.hok.fresh (Nat.le_refl _)) (Nat.ne_of_lt (Nat.lt_succ_self _))
  have I2 := Inv.made (C := C) I
  have r2 : Vals (V.ref (s.heap.objs.size + 1) :: (vs ++ dvs)) (Value.ref (s.heap.objs.size + 1) :: (us ++ ds)) := .cons rfl (r.append hd)
  have hl : (Value.ref (s.heap.objs.size + 1) :: us ++ ds).length = ps.length := by
    have e := r2.length
    rw [F.len _ _ _ _ hq] at e
    exact e.symm
  refine wpAny_call (make_map (f := f) I.kIn M.makes M.init (beq_iff_eq.mp M.fn) (codeAny_mono (F.run _ X.stack _ _ ⟨Value.ref (s.heap.objs.size + 1) :: us, []⟩ (Value.ref (s.heap.objs.size + 1) :: (us ++ ds)) _ _ E (hr.make C us [])
    (I2.env0.make C us []) (hb _ (Value.ref (s.heap.objs.size + 1) :: us) I2.kIn hl) r2 hq) fun r s' hq' => ?_))
  cases r with
  | error e => exact hx pins σ _ _ e s' I2 hq'
  | ok fl =>
    cases fl with
    | ret u =>
      obtain ⟨v, H', I3, rv, ev, q3⟩ := I2.after hq'
      subst ev
      exact ⟨rv, ⟨V.ref (s.heap.objs.size + 1), H', I3, rfl, q3⟩⟩
    | next => exact False.elim hq'
    | brk => exact False.elim hq'
    | cont => exact False.elim hq'
theorem pe_make (M : Mk X.K C f) (F : FnOk X.prog X.w X.K X.mg X.base CX k f fd ps sp) (hr : Room (k + 1) X.A) (hg : Gl X x) (hm : X.mg x = some (.ref C)) (hb : Binds X.K fd ps ds) (hd : Vals dvs ds) (hx : Passes CX X E)
    (ha : PA X (e :: es) t) (hdb : (x == ("__debug__" : Str)) = false := by decide) (he : starEach (e :: es) X.env = (false, eval e X.env) :: starEach es X.env := by rfl) (hpl : (backTo pos (starEach es X.env)).any (·.1) = false := by rfl) :
    PE X (.Call (.Name x p) (e :: es) [] pos) (tMake C sp dvs E t) := by
  intro pins s σ H Q I h
  refine wpAny_Call_Name_kw (ld_glob I hg hm ?_ hdb)
  refine PySem.W.callWith_K (h₀ := X.base) I.ok.mod.kin M.kp (thn (ha pos pins s σ H _ I h) fun us s1 ⟨vs, H1, I1, r, q⟩ => ⟨I1.kIn, ?_⟩) he hpl
  exact run_make M F hr hb hd hx I1 r q
theorem pe_make0 (M : Mk X.K C f) (F : FnOk X.prog X.w X.K X.mg X.base CX k f fd ps sp) (hr : Room (k + 1) X.A) (hg : Gl X x) (hm : X.mg x = some (.ref C)) (hb : Binds X.K fd ps ds) (hd : Vals dvs ds) (hx : Passes CX X E)
    (hdb : (x == ("__debug__" : Str)) = false := by decide) : PE X (.Call (.Name x p) [] [] pos) (tMake C sp dvs E tNil) := by
  intro pins s σ H Q I h
  refine wpAny_Call_Name_kw (ld_glob I hg hm ?_ hdb)
  exact PySem.W.callWith_K0 I.kIn M.kp (run_make (us := []) M F hr hb hd hx I .nil h)
end
section
variable {X : Cx} {CX : CXT} {k : Nat} {f C : Addr} {fd : FuncData} {ps ks : List Str} {sp : Sp} {E : XK} {x m : Str} {p pos apos kpos : Pos} {e o : Expr} {es : List Expr} {kws : List Keyword} {te ta : TE} {t tk : TA} {nm : Option Str}
variable {g : List Value → List Value → List Value} {gV : List V → List V → List V}
end
structure FnScope (N P : List Str) (sc : Scope) : Prop where
  kind : sc.kind = .function
  co : sc.isCoroutine = false
  gen : sc.isGenerator = false
  nd : N.Nodup
  pre : N.take P.length = P
  par : ∀ x ∈ P, sc.names.lookup x = some .local ∨ sc.names.lookup x = some .cell
  nofree : ∀ y ∈ sc.names, y.2 ≠ .free
theorem bindL_out {kindOf : Str → Option NameKind} {x : Str} : ∀ {binds : List (Str × Value)} {m : Str → Option Value}, (∀ v, (x, v) ∉ binds) → bindL kindOf binds m x = m x
  | [], _, _ => rfl
  | (n, v) :: r, m, h => by
    unfold bindL
    rw [bindL_out fun w hw => h w (List.mem_cons_of_mem _ hw)]
    split
    · have : x ≠ n := by rintro rfl; exact h v List.mem_cons_self
      simp [this]
    · rfl
theorem bindC_out {kindOf : Str → Option NameKind} {x : Str} : ∀ {binds : List (Str × Value)} {m : Str → Option Value}, (∀ v, (x, v) ∉ binds) → bindC kindOf binds m x = m x
  | [], _, _ => rfl
  | (n, v) :: r, m, h => by
    unfold bindC
    rw [bindC_out fun w hw => h w (List.mem_cons_of_mem _ hw)]
    split
    · rfl
    · have : x ≠ n := by rintro rfl; exact h v List.mem_cons_self
      simp [this]
theorem bindL_get {kindOf : Str → Option NameKind} {x : Str} {v : Value} : ∀ {P : List Str} {vs : List Value} {i : Nat} {m : Str → Option Value}, P.Nodup → P[i]? = some x → vs[i]? = some v → kindOf x = some .local →
    bindL kindOf (P.zip vs) m x = some v
  | [], _, _, _, _, h, _, _ => by simp at h
  | _ :: _, [], _, _, _, _, h, _ => by simp at h
  | p :: P, w :: vs, 0, m, nd, h1, h2, hk => by
    simp at h1 h2; subst h1; subst h2
    show bindL kindOf ((p, w) :: P.zip vs) m p = _
    unfold bindL
    rw [bindL_out fun v hv => (List.nodup_cons.mp nd).1 (List.of_mem_zip hv).1, if_pos hk]
    simp
  | p :: P, w :: vs, i + 1, m, nd, h1, h2, hk => by
    show bindL kindOf ((p, w) :: P.zip vs) m x = _
    unfold bindL
    exact bindL_get (i := i) (List.nodup_cons.mp nd).2 (by simpa using h1) (by simpa using h2) hk
theorem bindC_get {kindOf : Str → Option NameKind} {x : Str} {v : Value} : ∀ {P : List Str} {vs : List Value} {i : Nat} {m : Str → Option Value}, P.Nodup → P[i]? = some x → vs[i]? = some v → kindOf x ≠ some .local →
    bindC kindOf (P.zip vs) m x = some v
  | [], _, _, _, _, h, _, _ => by simp at h
  | _ :: _, [], _, _, _, _, h, _ => by simp at h
  | p :: P, w :: vs, 0, m, nd, h1, h2, hk => by
    simp at h1 h2; subst h1; subst h2
    show bindC kindOf ((p, w) :: P.zip vs) m p = _
    unfold bindC
    rw [bindC_out fun v hv => (List.nodup_cons.mp nd).1 (List.of_mem_zip hv).1, if_neg hk]
    simp
  | p :: P, w :: vs, i + 1, m, nd, h1, h2, hk => by
    show bindC kindOf ((p, w) :: P.zip vs) m x = _
    unfold bindC
    exact bindC_get (i := i) (List.nodup_cons.mp nd).2 (by simpa using h1) (by simpa using h2) hk
def start (N : List Str) (vs : List V) : St := vs.map some ++ List.replicate (N.length - vs.length) none
def cxOf (CX : CXT) (P : Program) (w : World) (K : PySem.W.Frag) (mg : Str → Option Value) (base : Heap) (N : List Str) (qual : Str) (scope : Scope) (f : Addr) (cd : Value) (A : Around) (outer : List Env) (s : Shared) (H : Hp) (E : XK) : Cx where
  prog := P
  w := w
  K := K
  mg := mg
  base := base
  A := A.deeper (envOfC qual scope s.heap.objs.size f cd)
  N := N
  s_0 := s
  H_0 := H
  env := envOfC qual scope s.heap.objs.size f cd
  outer := outer
  stack := envOfC qual scope s.heap.objs.size f cd :: outer
  ex := []
  calm := true
  fn := fun _ => true
  pn := []
  xe := fun e s' => wpAny (model P w) (A.deeper (envOfC qual scope s.heap.objs.size f cd)) (leaving (envOfC qual scope s.heap.objs.size f cd) e) (fun _ s'' => CX outer H s E e s'') (fun e' s'' => CX outer H s E e' s'') s'
theorem cell_has {sc : Scope} {n : Nat} {x : Str} (h : sc.names.lookup x = some .cell) : ∃ c, (cellsFrom n sc.names []).lookup x = some c := by
  have q := PySem.W.cellsFrom_some sc.names n [] (.inl h)
  exact Option.isSome_iff_exists.mp q
theorem inv_start {CX : CXT} {P : Program} {w : World} {K : PySem.W.Frag} {mg : Str → Option Value} {base : Heap} {N ps : List Str} {qual : Str} {scope : Scope} {f : Addr} {cd : Value} {A : Around} {outer : List Env} {s s1 : Shared} {H : Hp} {E : XK} {us : List Value} {vs : List V}
    (S : FnScope N ps scope) (hd : A.handled = none) (e0 : Env0 P w K mg base A outer s H) (hl : vs.length = ps.length) (r : Vals vs us)
    (x : InCallC s s.heap.objs.size (bindL (envOfC qual scope s.heap.objs.size f cd).kindOf (ps.zip us) fun _ => none) (cellsFrom (s.heap.objs.size + 1) scope.names []) (bindC (envOfC qual scope s.heap.objs.size f cd).kindOf (ps.zip us) fun _ => none) s1) :
    Inv (cxOf CX P w K mg base N qual scope f cd A outer s H E) [] (start N vs) H s1 := by
  have hpl : ps.length ≤ N.length := by have := congrArg List.length S.pre; rw [List.length_take] at this; omega
  obtain ⟨h1, tk, rfl, hk⟩ := x.done
  have noA : ∀ b : Addr, b ∉ (cxOf CX P w K mg base N qual scope f cd A outer s H E).ex := fun b z => absurd (show b ∈ ([] : List Addr) from z) (by simp)
  refine ⟨⟨e0.mod, S.kind, rfl, rfl, Nat.le_refl _, fun y z c h1 h2 => ?_, fun y hy => ?_, fun y c _ h => ?_, fun _ => hd, Around.frames_deeper e0.frames, .inr ⟨rfl, rfl⟩, fun b z => absurd z (noA b), e0.bs, e0.bsz, fun b _ _ => noA b, fun b z => absurd z (noA b), e0.funs, e0.frf⟩,
    rfl, e0.bare, Un.kept hk, ⟨_, x.toInCall.ns, fun i y v h1 h2 h3 => ?_⟩, fun y c h => ⟨_, x.cell y c h⟩, e0.hok.fresh (Nat.le_refl _), fun y c h => ?_, fun p hp => absurd (show p ∈ ([] : List (Addr × Obj)) from hp) (by simp), e0.hok.kept hk, ?_⟩
  · exact name_of_addr x.apart (PySem.mem_of_lookup h1) (PySem.mem_of_lookup h2)
  · have hy : scope.names.lookup y = some .cell ∨ scope.names.lookup y = some .free := hy
    rcases hy with hy | hy
    · exact cell_has hy
    · exact absurd rfl (S.nofree _ (PySem.mem_of_lookup hy))
  · exact Nat.le_of_lt (x.above y c (PySem.mem_of_lookup h))
  · have hi : i < vs.length := by
      unfold start at h2
      by_cases hi : i < vs.length
      · exact hi
      · rw [List.getElem?_append_right (by simpa using hi)] at h2
        rw [List.getElem?_replicate] at h2
        split at h2 <;> cases h2
    have ha : vs[i]? = some v := by
      unfold start at h2
      rw [List.getElem?_append_left (by simpa using hi), List.getElem?_map] at h2
      cases e : vs[i]? with
      | none => rw [e] at h2; cases h2
      | some a => rw [e] at h2; cases h2; rfl
    obtain ⟨u, hu, rv⟩ := r.get ha
    have hp : ps[i]? = some y := by
      rw [← S.pre, List.getElem?_take_of_lt (by omega)]; exact h1
    have ndP : ps.Nodup := by rw [← S.pre]; exact S.nd.sublist (List.take_sublist _ _)
    refine ⟨u, rv, ?_⟩
    rcases S.par y (List.mem_of_getElem? hp) with k | k
    · exact .inl ⟨k, bindL_get ndP hp hu k⟩
    · obtain ⟨c, e⟩ := cell_has (n := s.heap.objs.size + 1) k
      refine .inr ⟨.inl k, c, e, ?_⟩
      have q := x.cell y c e
      rw [bindC_get ndP hp hu (by show scope.names.lookup y ≠ _; rw [k]; decide)] at q
      exact q
  · exact e0.hok.fresh (Nat.le_of_lt (x.above y c (PySem.mem_of_lookup h)))
  · unfold start
    show _ = N.length
    rw [List.length_append, List.length_map, List.length_replicate]
    omega
theorem fn_of {CX : CXT} {P : Program} {w : World} {K : PySem.W.Frag} {mg : Str → Option Value} {base : Heap} {k : Nat} {f : Addr} {name qual : Str} {params : Arguments} {body : List Stmt} {scope : Scope} {dV kV doc pm cdv ct oc : Value} {an od : Option Addr}
    {osl : Array (Option Value)} {N ps : List Str} {sp : Sp} (lk : K.lookup f = some ⟨oc, od, .func (PySem.W.fnOf name qual params body scope dV kV doc pm an cdv ct), osl⟩) (hcd : PySem.W.codeIn K cdv qual = true) (S : FnScope N ps scope)
    (len : ∀ vs H Q E, sp vs H Q E → vs.length = ps.length)
    (hbody : ∀ (A : Around) (outer : List Env) (s : Shared) (H : Hp) (vs : List V) (Q : VK) (E : XK), Room k (A.deeper (envOfC qual scope s.heap.objs.size f cdv)) → sp vs H Q E →
      ∃ t, PSs (cxOf CX P w K mg base N qual scope f cdv A outer s H E) body t ∧ t { nx := fun _ H' => Q .non H', rt := Q } (start N vs) H) :
    FnOk P w K mg base CX (k + 1) f (PySem.W.fnOf name qual params body scope dV kV doc pm an cdv ct) ps sp := by
  refine ⟨len, fun A outer s H args us vs Q E hr e0 hb r hsp => ?_⟩
  have hl := len _ _ _ _ hsp
  have KX : K.In s.heap := e0.mod.kin.keeps fun b o e => (e0.bs b o e).1
  have lim : s.heap.NoLimit := e0.mod.nolimit.keeps fun b o e => (e0.bs b o e).1
  have hkind : ∀ y ∈ ps.zip us, scope.names.lookup y.1 = some .local ∨ (scope.names.lookup y.1 = some .cell ∧ ((cellsFrom (s.heap.objs.size + 1) scope.names []).lookup y.1).isSome = true) := fun ⟨n, v⟩ hy => by
    rcases S.par n (List.of_mem_zip hy).1 with q | q
    · exact .inl q
    · exact .inr ⟨q, PySem.W.cellsFrom_some _ _ _ (.inl q)⟩
  refine codeAny_call_function hr.depth (KX _ _ lk) rfl S.co S.gen rfl (PySem.W.codeRec_of KX hcd) (hb _ _ _ _ ?_)
  refine wpAny_newFunctionEnv_cells S.kind hkind fun env he s1 x => ?_
  subst he
  refine ⟨lim.keeps x.toInCall.keep, codeAny_func ?_⟩
  obtain ⟨t, ht, hq⟩ := hbody A outer s H vs Q E (hr.deeper _) hsp
  have I : Inv (cxOf CX P w K mg base N qual scope f cdv A outer s H E) [] (start N vs) H s1 := inv_start S hr.hd e0 hl r x
  refine wpAny_mono (ht [] s1 (start N vs) H _ I hq) (fun fl s' hs => ?_) fun e s' hs => hs
  have fin : ∀ {σ' : St} {H' : Hp} {v : V} {u : Value}, Inv (cxOf CX P w K mg base N qual scope f cdv A outer s H E) [] σ' H' s' → RelV v u → Q v H' → CE outer P w H s Q u s' :=
    fun {σ' H' v u} J rv q => ⟨v, H', J.os, J.bare, J.base, J.hok, rv, q⟩
  cases fl with
  | ret u =>
    obtain ⟨v, σ', H', J, rv, q⟩ := hs
    exact fin J rv q
  | next =>
    obtain ⟨σ', H', J, q⟩ := hs
    exact fin (v := V.non) (u := Value.none) J rfl q
  | brk =>
    obtain ⟨_, _, _, q⟩ := hs
    exact False.elim q
  | cont =>
    obtain ⟨_, _, _, q⟩ := hs
    exact False.elim q
end L2
namespace L2
open PySem PySem.Spec PyProof.Rows
section
variable {X : Cx} {x : Str} {p pos : Pos} {e : Expr} {es : List Expr} {t : TA} {id T : String} {r : List V → Hp → VK → Prop}
def tCB (r : List V → Hp → VK → Prop) (t : TA) : TE := fun σ H Q => t σ H fun vs H1 => r vs H1 Q
theorem pe_callB (hc : CallR X (.builtin id) r) (hg : Gl X x) (hm : X.mg x = none) (hv : bootBuiltins x = some (.builtin id)) (ha : PA X (e :: es) t) (hn : x ≠ "__name__" := by decide) (hdb : (x == ("__debug__" : Str)) = false := by decide)
    (he : starEach (e :: es) X.env = (false, eval e X.env) :: starEach es X.env := by rfl) (hpl : (backTo pos (starEach es X.env)).any (·.1) = false := by rfl) : PE X (.Call (.Name x p) (e :: es) [] pos) (tCB r t) := by
  intro pins s σ H Q I h
  refine wpAny_Call_Name_kw (ld_blt I hg hm hv ?_ hn hdb)
  exact PyProof.Rows.callWith_builtin1 (thn (ha pos pins s σ H _ I h) fun us s1 ⟨vs, H1, I1, r1, q1⟩ => hc pins s1 σ H1 vs us Q I1 r1 q1) he hpl
theorem pe_callTy (hc : CallR X (.type T) r) (hg : Gl X x) (hm : X.mg x = none) (hv : bootBuiltins x = some (.type T)) (ha : PA X (e :: es) t) (hn : x ≠ "__name__" := by decide) (hdb : (x == ("__debug__" : Str)) = false := by decide)
    (he : starEach (e :: es) X.env = (false, eval e X.env) :: starEach es X.env := by rfl) (hpl : (backTo pos (starEach es X.env)).any (·.1) = false := by rfl) : PE X (.Call (.Name x p) (e :: es) [] pos) (tCB r t) := by
  intro pins s σ H Q I h
  refine wpAny_Call_Name_kw (ld_blt I hg hm hv ?_ hn hdb)
  exact PyProof.Rows.callWith_type1 (thn (ha pos pins s σ H _ I h) fun us s1 ⟨vs, H1, I1, r1, q1⟩ => hc pins s1 σ H1 vs us Q I1 r1 q1) he hpl
end
end L2
namespace HT
open PySem PyProof.Rows
section
open PySem.SeqAt
open PySem.AutoSeq1 (wpAny_loadPart')
open PySem.MeetsSeq PySem.MeetsSeq2 PySem.MeetsSeq3
end
section
variable {prog : Program} {w : World} {A : Around} {E : Value → Shared → Prop} {s : Shared}
def sIx (n d : Nat) : Option Int → Nat
  | none => d
  | some v => if v < 0 then (v + (n : Int)).toNat else min v.toNat n
theorem sIx_none (n d : Nat) : sIx n d none = d := rfl
theorem sIx_nat (n d k : Nat) : sIx n d (some (k : Int)) = min k n := by
  show (if (k : Int) < 0 then ((k : Int) + (n : Int)).toNat else min (k : Int).toNat n) = min k n
  rw [if_neg (by omega), Int.toNat_natCast]
end
end HT
namespace L2
open PySem PySem.Spec PyProof.Rows
abbrev TO := St → Hp → (Option Int → Hp → Prop) → Prop
def PO (X : Cx) (e : Option Expr) (t : TO) : Prop :=
  ∀ (pins : List (Addr × Obj)) (s : Shared) (σ : St) (H : Hp) (Q : Option Int → Hp → Prop), Inv X pins σ H s → t σ H Q →
    wpAny (model X.prog X.w) X.A (evalPart e X.env) (fun u s' => ∃ o H', Inv X pins σ H' s' ∧ IsPart u o ∧ Q o H') X.xe s
def tNoPart : TO := fun _ H Q => Q none H
def tPart (t : TE) : TO := fun σ H Q => t σ H fun x H1 => ∃ i, x = .int i ∧ Q (some i) H1
section
variable {X : Cx} {e : Expr} {te : TE} {lo hi : Option Expr} {tl th : TO} {pos p2 : Pos}
theorem po_none : PO X none tNoPart := by
  intro pins s σ H Q I h
  rw [evalPart_none]
  exact wpAny_pure ⟨none, H, I, .none, h⟩
theorem po_some (h : PE X e te) : PO X (some e) (tPart te) := by
  intro pins s σ H Q I hw
  rw [evalPart_some]
  refine thn (h pins s σ H _ I hw) fun u s1 ⟨x, H1, I1, r1, q1⟩ => ?_
  obtain ⟨i, rfl, q⟩ := q1
  obtain ⟨t, rfl⟩ := r1
  exact ⟨some i, H1, I1, .int i t, q⟩
def SlR (X : Cx) (r : V → Option Int → Option Int → Hp → VK → Prop) : Prop :=
  ∀ (pins : List (Addr × Obj)) (s : Shared) (σ : St) (H : Hp) (x : V) (v vl vu : Value) (lo hi : Option Int) (sl : Addr) (Q : VK), Inv X pins σ H s → RelV x v → s.heap.IsSliceOf sl vl vu .none → IsPart vl lo → IsPart vu hi → r x lo hi H Q →
    ∃ T id, typeLookup (.type T) "__getitem__" = pure (some (.builtin id)) ∧ s.TypeIs v T ∧ wpAny (model X.prog X.w) X.A (getItem v (.ref sl)) (EP X pins σ Q) X.xe s
def tSl (r : V → Option Int → Option Int → Hp → VK → Prop) (te : TE) (tl th : TO) : TE := fun σ H Q => te σ H fun x H1 => tl σ H1 fun l H2 => th σ H2 fun u H3 => r x l u H3 Q
theorem pe_slice {r : V → Option Int → Option Int → Hp → VK → Prop} (hr : SlR X r) (he : PE X e te) (hl : PO X lo tl) (hu : PO X hi th) : PE X (.Subscript e (.Slice lo hi none p2) pos) (tSl r te tl th) := by
  intro pins s σ H Q I h
  refine Subscript_ (thn (he pins s σ H _ I h) fun v s1 ⟨x, H1, I1, r1, q1⟩ => ?_)
  refine wpAny_Slice (thn (hl pins s1 σ H1 _ I1 q1) fun vl s2 ⟨l, H2, I2, pl, q2⟩ => thn (hu pins s2 σ H2 _ I2 q2) fun vu s3 ⟨u, H3, I3, pu, q3⟩ => ?_)
  rw [evalPart_none]
  refine wpAny_pure ?_
  have I4 : Inv X pins σ H3 { s3 with heap := s3.heap.push { cls := .type "slice", data := .fields #[vl, vu, .none] } } := I3.kept (t' := s3.toks) fun b ob q => Heap.get?_push_of_some _ q
  obtain ⟨T, id, hT, ht, hg⟩ := hr pins { s3 with heap := s3.heap.push { cls := .type "slice", data := .fields #[vl, vu, .none] } } σ H3 x v vl vu l u s3.heap.objs.size Q I4 r1 (Heap.IsSliceOf.new ..) pl pu q3
  show wpAny (model X.prog X.w) X.A (subscriptTail e (.Slice lo hi none p2) v (.ref s3.heap.objs.size)) (EP X pins σ Q) X.xe { s3 with heap := s3.heap.push { cls := .type "slice", data := .fields #[vl, vu, .none] } }
  exact tail_any (ops := [.ref s3.heap.objs.size, v]) ht hT hg (by with_unfolding_all rfl)
def cutV (xs : List V) (lo hi : Option Int) : List V := (xs.drop (HT.sIx xs.length 0 lo)).take (HT.sIx xs.length xs.length hi - HT.sIx xs.length 0 lo)
theorem cutV_length (xs : List V) (lo hi : Option Int) : (cutV xs lo hi).length ≤ xs.length := by
  unfold cutV
  rw [List.length_take, List.length_drop]
  omega
end
end L2
namespace L2
open PySem PySem.Spec PyProof.Rows
def ixN (n : Nat) (i : Int) : Option Nat := if 0 ≤ i then (if i < n then some i.toNat else none) else if -(n : Int) ≤ i then some (i + n).toNat else none
def atI {α : Type} (xs : List α) (i : Int) : Option α := (ixN xs.length i).bind fun j => xs[j]?
theorem ixN_seq {n : Nat} {i : Int} {j : Nat} (h : ixN n i = some j) : seqIndex? i n = some j ∧ j < n ∧ -(n : Int) ≤ i ∧ i < n := by
  unfold ixN at h
  by_cases h0 : 0 ≤ i
  · rw [if_pos h0] at h
    by_cases h1 : i < n
    · rw [if_pos h1] at h
      have e : i.toNat = j := Option.some.inj h
      exact ⟨by rw [seqIndex_of h0 h1, e], by omega, by omega, h1⟩
    · rw [if_neg h1] at h; cases h
  · rw [if_neg h0] at h
    by_cases h1 : -(n : Int) ≤ i
    · rw [if_pos h1] at h
      have e : (i + n).toNat = j := Option.some.inj h
      exact ⟨by rw [seqIndex_neg (by omega) h1, e], by omega, h1, by omega⟩
    · rw [if_neg h1] at h; cases h
theorem atI_get {α : Type} {xs : List α} {i : Int} {v : α} (h : atI xs i = some v) : ∃ j, seqIndex? i xs.length = some j ∧ xs[j]? = some v ∧ j < xs.length ∧ -(xs.length : Int) ≤ i ∧ i < xs.length := by
  unfold atI at h
  cases e : ixN xs.length i with
  | none => rw [e] at h; cases h
  | some j =>
    rw [e] at h
    obtain ⟨h1, h2, h3, h4⟩ := ixN_seq e
    exact ⟨j, h1, h, h2, h3, h4⟩
theorem atI_nat {α : Type} {xs : List α} {j : Nat} {v : α} (h : xs[j]? = some v) : atI xs (j : Int) = some v := by
  have hj : j < xs.length := (List.getElem?_eq_some_iff.mp h).1
  have e : ixN xs.length (j : Int) = some j := by
    unfold ixN
    rw [if_pos (by omega), if_pos (by omega)]; simp
  unfold atI; rw [e]; exact h
def PlainIx (b : Expr) : Prop := ∀ o i, subscripted b false o i = operate [o, i] (getItem o i)
def IxR (X : Cx) (r : R2) : Prop :=
  ∀ (value slice : Expr) (pins : List (Addr × Obj)) (s : Shared) (σ : St) (H : Hp) (x y : V) (v u : Value) (Q : VK), Inv X pins σ H s → RelV x v → RelV y u → r x y H Q →
    subscripted slice false v u = operate [v, u] (getItem v u) → wpAny (model X.prog X.w) X.A (subscriptTail value slice v u) (EP X pins σ Q) X.xe s
def MtR (X : Cx) (id : String) (r : V → List V → Hp → VK → Prop) : Prop :=
  ∀ (pins : List (Addr × Obj)) (s : Shared) (σ : St) (H : Hp) (x : V) (xs : List V) (v : Value) (us : List Value) (Q : VK), Inv X pins σ H s → RelV x v → Vals xs us → r x xs H Q →
    wpAny (model X.prog X.w) X.A (call (.builtin id) (v :: us)) (EP X pins σ Q) X.xe s
section
variable {X : Cx} {a b : Expr} {ta tb : TE} {pos : Pos}
theorem pe_ix {r : R2} (hr : IxR X r) (ha : PE X a ta) (hb : PE X b tb) (hs : PlainIx b) : PE X (.Subscript a b pos) (tOp r ta tb) := by
  intro pins s σ H Q I h
  exact Subscript_ (binT ha hb I h fun v u s2 x y H2 I2 rx ry q => hr a b pins s2 σ H2 x y v u Q I2 rx ry q (hs _ _))
def rIxL (K : PySem.W.Frag) : R2 := fun x y H Q => ∃ p xs i v, x = .ref p ∧ y = .int i ∧ SqL K H p xs ∧ atI xs i = some v ∧ Q v H
def rIxT (K : PySem.W.Frag) : R2 := fun x y H Q => ∃ p xs i v, x = .ref p ∧ y = .int i ∧ SqT K H p xs ∧ atI xs i = some v ∧ Q v H
theorem ix_list : IxR X (rIxL X.K) := by
  intro value slice pins s σ H x y v u Q I rx ry h hs
  obtain ⟨p, xs, i, z, rfl, rfl, hq, he, q⟩ := h
  cases rx
  obtain ⟨t, rfl⟩ := ry
  obtain ⟨its, r, pl, hz⟩ := I.list hq
  obtain ⟨j, h1, h2, h3, h4, h5⟩ := atI_get he
  obtain ⟨w, ew, rw'⟩ := r.get h2
  have hl := r.length
  have hn := line63
  have fin : EP X pins σ Q w s := ⟨z, H, I, rw', q⟩
  by_cases h0 : 0 ≤ i
  · have hj : i.toNat = j := by
      rw [seqIndex_of h0 h5] at h1
      exact Option.some.inj h1
    exact item_listR pl.isList h0 (by omega) (by rw [hj]; simpa using ew) fin hs
  · have hj : (i + (its.toArray.size : Int)).toNat = j := by
      rw [seqIndex_neg (by omega) h4] at h1
      rw [List.size_toArray, ← hl]
      exact Option.some.inj h1
    exact subscriptTail_builtinR (x := w) pl.isList.typeIs slot_list_getitem.lookup
      (wpAny_getItem_list_neg (Q := fun r s' => r = w ∧ EP X pins σ Q r s') pl.isList (by omega) (by rw [List.size_toArray] <;> omega) (by omega) (by rw [hj]; simpa using ew) ⟨rfl, fin⟩) hs
theorem ix_tup : IxR X (rIxT X.K) := by
  intro value slice pins s σ H x y v u Q I rx ry h hs
  obtain ⟨p, xs, i, z, rfl, rfl, hq, he, q⟩ := h
  cases rx
  obtain ⟨t, rfl⟩ := ry
  obtain ⟨its, r, pl, hz⟩ := I.tuple hq
  obtain ⟨j, h1, h2, h3, h4, h5⟩ := atI_get he
  obtain ⟨w, ew, rw'⟩ := r.get h2
  have hl := r.length
  have hn := line63
  have fin : EP X pins σ Q w s := ⟨z, H, I, rw', q⟩
  exact subscriptTail_builtinR (x := w) pl.typeIs slot_tuple_getitem.lookup
    (getItem_tuple (j := j) (Q := fun r s' => r = w ∧ EP X pins σ Q r s') pl (by omega) (by omega) (by rw [List.size_toArray, ← hl]; exact h1) (by simpa using ew) ⟨rfl, fin⟩) hs
theorem mapSeq_set (its : List Value) (n j : Nat) (u : Value) : Obj.mapSeq (·.setIfInBounds j u) { cls := .type "list", data := .seq its.toArray n } = { cls := .type "list", data := .seq (its.set j u).toArray n } := by
  simp [Obj.mapSeq]
theorem Inv.lst {pins : List (Addr × Obj)} {σ : St} {H : Hp} {s : Shared} {p : Addr} {xs : List V} (I : Inv X pins σ H s) (h : H p = some (.lst xs)) :
    ∃ (its : List Value) (n : Nat), Vals xs its ∧ s.heap.get? p = some { cls := .type "list", data := .seq its.toArray n } ∧ xs.length ≤ sizeLine := by
  obtain ⟨z, its, n, r, e⟩ := I.hok p _ h
  exact ⟨its, n, r, e, z⟩
theorem Inv.lstUpd {pins : List (Addr × Obj)} {σ : St} {H : Hp} {s : Shared} {p : Addr} {xs ys : List V} {its its' : List Value} {n n' : Nat} {f : Obj → Obj} (I : Inv X pins σ H s) (h : H p = some (.lst xs))
    (ho : s.heap.get? p = some { cls := .type "list", data := .seq its.toArray n }) (hf : f { cls := .type "list", data := .seq its.toArray n } = { cls := .type "list", data := .seq its'.toArray n' }) (r : Vals ys its') (hz : ys.length ≤ sizeLine) (t : Nat) :
    Inv X pins σ (upd H p (.lst ys)) { s with heap := s.heap.update p f, toks := t } := by
  have e : (s.heap.update p f).get? p = some { cls := .type "list", data := .seq its'.toArray n' } := by
    rw [Heap.get?_update_self f ho (by rw [hf] <;> rfl), hf]
  refine I.write (x := p) (e := p) (by rw [h]; trivial) (.inl rfl) (fun b u hb q => (Heap.get?_update_other _ _ (Ne.symm hb)).trans q) ⟨_, e⟩ ?_
  exact ⟨hz, its', n', r, e⟩
def rSetL : V → V → V → Hp → (Hp → Prop) → Prop := fun o i v H Q => ∃ p xs k j, o = .ref p ∧ i = .int k ∧ H p = some (.lst xs) ∧ ixN xs.length k = some j ∧ Q (upd H p (.lst (xs.set j v)))
theorem set_list : PSet X rSetL := by
  intro pins s σ H o i v ov iv u Q I ro ri rv h
  obtain ⟨p, xs, k, j, rfl, rfl, hp, hj, q⟩ := h
  cases ro
  obtain ⟨t, rfl⟩ := ri
  obtain ⟨its, n, r, ho, hz⟩ := I.lst hp
  obtain ⟨h1, h2, h3, h4⟩ := ixN_seq hj
  have hl := r.length
  have hn := line63
  have I' : Inv X pins σ (upd H p (.lst (xs.set j v))) { s with heap := s.heap.update p (Obj.mapSeq (·.setIfInBounds j u)) } :=
    I.lstUpd hp ho (mapSeq_set its n j u) (r.set rv j) (by rw [List.length_set]; exact hz) s.toks
  by_cases h0 : 0 ≤ k
  · have hk : k.toNat = j := by
      rw [seqIndex_of h0 h4] at h1
      exact Option.some.inj h1
    exact PySem.W.ki_setAt ho h0 (by omega) (by rw [List.size_toArray, ← hl]; exact h4) (by rw [hk]; exact ⟨_, I', q⟩)
  · have hk : (k + (its.toArray.size : Int)).toNat = j := by
      rw [seqIndex_neg (by omega) h3] at h1
      rw [List.size_toArray, ← hl]
      exact Option.some.inj h1
    exact PySem.W.ki_setBack ho (by omega) (by rw [List.size_toArray, ← hl]; exact h3) (by omega) (by rw [hk]; exact ⟨_, I', q⟩)
theorem slice_bounds (lo hi : Option Int) (n : Nat) : (sliceBounds lo hi none n).1 = ((HT.sIx n 0 lo : Nat) : Int) ∧ (sliceBounds lo hi none n).2.1 = ((HT.sIx n n hi : Nat) : Int) ∧ (sliceBounds lo hi none n).2.2 = 1 := by
  refine ⟨?_, ?_, rfl⟩
  · cases lo with
    | none => simp [sliceBounds, HT.sIx]
    | some i =>
      simp only [sliceBounds, HT.sIx, Option.getD_none, show (1 : Int) > 0 by decide, if_true]
      by_cases h : i < 0
      · simp only [h, if_true] <;> omega
      · simp only [h, if_false] <;> omega
  · cases hi with
    | none => simp [sliceBounds, HT.sIx]
    | some i =>
      simp only [sliceBounds, HT.sIx, Option.getD_none, show (1 : Int) > 0 by decide, if_true]
      by_cases h : i < 0
      · simp only [h, if_true] <;> omega
      · simp only [h, if_false] <;> omega
theorem slicePick_cut (its : List Value) (lo hi : Option Int) : slicePick its.toArray lo hi none = ((its.drop (HT.sIx its.length 0 lo)).take (HT.sIx its.length its.length hi - HT.sIx its.length 0 lo)).toArray := by
  obtain ⟨h1, h2, h3⟩ := slice_bounds lo hi its.toArray.size
  unfold slicePick
  rw [h1, h2, h3]
  simp only [sliceRange_one, pick_run, List.size_toArray] <;> rfl
def rSlL (K : PySem.W.Frag) : V → Option Int → Option Int → Hp → VK → Prop := fun x lo hi H Q => ∃ a xs, x = .ref a ∧ SqL K H a xs ∧ ∀ p, H p = none → Q (.ref p) (upd H p (.lst (cutV xs lo hi)))
theorem sl_list : SlR X (rSlL X.K) := by
  intro pins s σ H x v vl vu lo hi sl Q I rx hs pl pu h
  obtain ⟨a, xs, rfl, hx, q⟩ := h
  cases rx
  obtain ⟨its, r, ht, hz⟩ := I.list hx
  have hlen := r.length
  refine ⟨"list", _, slot_list_getitem.lookup, ht.isList.typeIs, ?_⟩
  refine wpAny_getItem_list_slice ht.isList hs pl pu .none (by simp) ?_ (by rw [List.size_toArray] <;> omega)
  rw [slicePick_cut, ← hlen]
  refine ⟨.ref s.heap.objs.size, _, I.laid (t' := s.toks) (o := .lst (cutV xs lo hi)) (fun b ob q => Heap.get?_push_of_some _ q) (Nat.le_refl _) ?_, rfl, q _ (I.hok.fresh (Nat.le_refl _))⟩
  exact ⟨Nat.le_trans (cutV_length xs lo hi) hz, _, 0, (r.drop (HT.sIx xs.length 0 lo)).take (HT.sIx xs.length xs.length hi - HT.sIx xs.length 0 lo), Heap.get?_push_size _ rfl⟩
def flatV : V → Bool
  | .non => true
  | .bl _ => true
  | .int _ => true
  | .str _ => true
  | _ => false
def eqV : V → V → Bool
  | .non, .non => true
  | .bl a, .bl b => a == b
  | .bl a, .int b => (if a then 1 else 0) == b
  | .int a, .bl b => a == (if b then 1 else 0)
  | .int a, .int b => a == b
  | .str a, .str b => a == b
  | _, _ => false
theorem eqAt_V {A : Around} {s : Shared} {y x : V} {u v : Value} (ry : RelV y u) (rx : RelV x v) (fy : flatV y = true) (fx : flatV x = true) : SeqAt.EqAt A s u v (eqV y x) := by
  cases y with
  | non =>
    cases ry
    cases x with
    | non => cases rx; exact SeqAt.EqAt.same _
    | bl b => cases rx; exact SeqAt.EqAt.none_bool b
    | int b => obtain ⟨t, rfl⟩ := rx; exact SeqAt.EqAt.none_int b t
    | str b => obtain ⟨t, rfl⟩ := rx; exact SeqAt.EqAt.none_str b t
    | _ => exact absurd (show false = true from fx) Bool.false_ne_true
  | bl a =>
    cases ry
    cases x with
    | non => cases rx; exact SeqAt.EqAt.bool_none a
    | bl b => cases rx; exact SeqAt.EqAt.bool_bool a b
    | int b => obtain ⟨t, rfl⟩ := rx; exact SeqAt.EqAt.bool_int a b t
    | str b => obtain ⟨t, rfl⟩ := rx; exact SeqAt.EqAt.bool_str a b t
    | _ => exact absurd (show false = true from fx) Bool.false_ne_true
  | int a =>
    obtain ⟨t', rfl⟩ := ry
    cases x with
    | non => cases rx; exact SeqAt.EqAt.int_none a t'
    | bl b => cases rx; exact SeqAt.EqAt.int_bool a t' b
    | int b => obtain ⟨t, rfl⟩ := rx; exact SeqAt.EqAt.int_int a t' b t
    | str b => obtain ⟨t, rfl⟩ := rx; exact SeqAt.EqAt.int_str a t' b t
    | _ => exact absurd (show false = true from fx) Bool.false_ne_true
  | str a =>
    obtain ⟨t', rfl⟩ := ry
    cases x with
    | non => cases rx; exact SeqAt.EqAt.str_none a t'
    | bl b => cases rx; exact SeqAt.EqAt.str_bool a t' b
    | int b => obtain ⟨t, rfl⟩ := rx; exact SeqAt.EqAt.str_int a t' b t
    | str b => obtain ⟨t, rfl⟩ := rx; exact SeqAt.EqAt.str_str a t' b t
    | _ => exact absurd (show false = true from fx) Bool.false_ne_true
  | _ => exact absurd (show false = true from fy) Bool.false_ne_true
def eqU (x : V) (u : Value) : Bool := match u with
  | .none => eqV .non x
  | .bool b => eqV (.bl b) x
  | .int i _ => eqV (.int i) x
  | .str z _ => eqV (.str z) x
  | _ => false
theorem eqU_of {x y : V} {u : Value} (r : RelV y u) (f : flatV y = true) : eqU x u = eqV y x := by
  cases y with
  | non => cases r; rfl
  | bl b => cases r; rfl
  | int i => obtain ⟨t, rfl⟩ := r; rfl
  | str z => obtain ⟨t, rfl⟩ := r; rfl
  | _ => exact absurd (show false = true from f) Bool.false_ne_true
theorem any_eqU {x : V} : ∀ {xs : List V} {us : List Value}, Vals xs us → xs.all flatV = true → us.any (eqU x) = xs.any fun y => eqV y x
  | _, _, .nil, _ => rfl
  | y :: xs, u :: us, .cons r t, f => by
    rw [List.all_cons, Bool.and_eq_true] at f
    rw [List.any_cons, List.any_cons, eqU_of r f.1, any_eqU t f.2]
theorem mem_eqAt {A : Around} {s : Shared} {x : V} {v : Value} (rx : RelV x v) (fx : flatV x = true) : ∀ {xs : List V} {us : List Value}, Vals xs us → xs.all flatV = true → ∀ u ∈ us, SeqAt.EqAt A s u v (eqU x u)
  | _, _, .nil, _ => fun u hu => by cases hu
  | y :: xs, u :: us, .cons r t, f => fun u' hu => by
    rw [List.all_cons, Bool.and_eq_true] at f
    rcases List.mem_cons.mp hu with rfl | hu
    · rw [eqU_of r f.1]; exact eqAt_V r rx f.1 fx
    · exact mem_eqAt rx fx t f.2 u' hu
def inV (x : V) (xs : List V) : Bool := xs.any fun y => eqV y x
def rIn (K : PySem.W.Frag) (neg : Bool) : R2 := fun x y H Q => ∃ p xs, y = .ref p ∧ (SqL K H p xs ∨ SqT K H p xs) ∧ flatV x = true ∧ xs.all flatV = true ∧ Q (.bl (if neg then !inV x xs else inV x xs)) H
theorem op_in_seq : OpR X (compareOp .In) (rIn X.K false) := by
  intro pins s σ H x y v u Q I rx ry h
  obtain ⟨p, xs, rfl, hq, fx, fs, q⟩ := h
  cases ry
  rcases hq with hq | hq
  · obtain ⟨its, r, pl, hz⟩ := I.list hq
    refine SeqAt.in_listAt (eqU x) pl.isList (fun w hw => mem_eqAt rx fx r fs w (by simpa using hw)) ⟨.bl _, H, I, rfl, ?_⟩
    rw [show its.toArray.any (eqU x) = its.any (eqU x) by simp, any_eqU r fs]
    exact q
  · obtain ⟨its, r, pl, hz⟩ := I.tuple hq
    refine SeqAt.in_tupleAt (eqU x) pl (fun w hw => mem_eqAt rx fx r fs w (by simpa using hw)) ⟨.bl _, H, I, rfl, ?_⟩
    rw [show its.toArray.any (eqU x) = its.any (eqU x) by simp, any_eqU r fs]
    exact q
theorem call_len_seq : CallR X (.builtin "len") (fun xs H Q => ∃ p ys, xs = [.ref p] ∧ (SqL X.K H p ys ∨ SqT X.K H p ys) ∧ Q (.int ys.length) H) := by
  intro pins s σ H xs us Q I r h
  obtain ⟨p, ys, rfl, hq, q⟩ := h
  obtain ⟨u, rfl, rx⟩ := vals1 r
  cases rx
  have hn := line63
  rcases hq with hq | hq
  · obtain ⟨its, r', pl, hz⟩ := I.list hq
    have hlen := r'.length
    exact Calls.call_len_list pl.isList (by simp only [List.size_toArray] <;> omega) ⟨.int ys.length, H, I.tok _, ⟨s.toks + 1, by rw [List.size_toArray, hlen]⟩, q⟩
  · obtain ⟨its, r', pl, hz⟩ := I.tuple hq
    have hlen := r'.length
    exact len_tuple pl (by simp only [List.size_toArray] <;> omega) ⟨.int ys.length, H, I.tok _, ⟨s.toks + 1, by rw [List.size_toArray, hlen]⟩, q⟩
theorem call_list_of : CallR X (.type "list") (fun xs H Q => ∃ p ys, xs = [.ref p] ∧ (SqL X.K H p ys ∨ SqT X.K H p ys) ∧ ∀ l, H l = none → Q (.ref l) (upd H l (.lst ys))) := by
  intro pins s σ H xs us Q I r h
  obtain ⟨p, ys, rfl, hq, q⟩ := h
  obtain ⟨u, rfl, rx⟩ := vals1 r
  cases rx
  have fin : ∀ (its : List Value), Vals ys its → ys.length ≤ sizeLine → ∀ (h' : Heap) (c' : Nat), (∀ b o', s.heap.get? b = some o' → h'.get? b = some o') →
      h'.get? s.heap.objs.size = some { cls := .type "list", dict := none, data := .seq its.toArray c', slots := #[] } → EP X pins σ Q (.ref s.heap.objs.size) { s with heap := h' } := fun its r' hz h' c' kp e =>
    ⟨.ref s.heap.objs.size, _, I.laid (t' := s.toks) kp (Nat.le_refl _) (show ObjOk X.prog X.w _ h' _ (.lst ys) from ⟨hz, its, c', r', e⟩), rfl, q _ (I.hok.fresh (Nat.le_refl _))⟩
  rcases hq with hq | hq
  · obtain ⟨its, r', pl, hz⟩ := I.list hq
    have hlen := r'.length
    obtain ⟨o, ho, hc, n, hd⟩ := pl.isList
    exact call_list_seq p (.inl rfl) ho hc hd (fun h' c' kp e => fin its r' hz h' c' kp e) (by simp only [List.size_toArray] <;> omega)
  · obtain ⟨its, r', pl, hz⟩ := I.tuple hq
    have hlen := r'.length
    obtain ⟨o, ho, hc, n, hd⟩ := pl
    exact call_list_seq p (.inr rfl) ho hc hd (fun h' c' kp e => fin its r' hz h' c' kp e) (by simp only [List.size_toArray] <;> omega)
def tyV (K : PySem.W.Frag) (T : String) (x : V) (H : Hp) : Prop := match x with
  | .str _ => T = "str"
  | .int _ => T = "int"
  | .ref p => (T = "list" ∧ ∃ xs, SqL K H p xs) ∨ (T = "tuple" ∧ ∃ o, K.lookup p = some o ∧ o.cls = .type "tuple" ∧ o.dict = none) ∨
      (T = "dict" ∧ ((∃ kvs, H p = some (.dK kvs)) ∨ ∃ kvs, H p = some (.dT kvs))) ∨ (T = "set" ∧ ∃ S n, H p = some (.set S n))
  | _ => False
theorem tyV_is {pins : List (Addr × Obj)} {σ : St} {H : Hp} {s : Shared} {T : String} {x : V} {v : Value} (I : Inv X pins σ H s) (r : RelV x v) (ty : tyV X.K T x H) :
    s.TypeIs v T ∧ ∀ a, v = .ref a → ∃ ob, s.heap.get? a = some ob ∧ ob.dict = none := by
  cases x with
  | str z =>
    obtain ⟨t, rfl⟩ := r
    cases (show T = "str" from ty)
    exact ⟨typeIs_str s z t, fun _ e => nomatch e⟩
  | int i =>
    obtain ⟨t, rfl⟩ := r
    cases (show T = "int" from ty)
    exact ⟨typeIs_int s i t, fun _ e => nomatch e⟩
  | ref p =>
    cases r
    rcases ty with ⟨rfl, xs, hq⟩ | ⟨rfl, o, hk, hc, hd⟩ | ⟨rfl, hk⟩ | ⟨rfl, S, n, hk⟩
    · obtain ⟨its, _, pl, _⟩ := I.list hq
      refine ⟨pl.isList.typeIs, fun a e => ?_⟩
      cases e
      obtain ⟨o, n, e, c, hd, _⟩ := pl
      exact ⟨o, e, hd⟩
    · refine ⟨⟨o, I.kIn p o hk, hc⟩, fun a e => ?_⟩
      cases e
      exact ⟨o, I.kIn _ o hk, hd⟩
    · have z : ∃ o, s.heap.get? p = some o ∧ o.ExactDict := by
        rcases hk with ⟨kvs, hk⟩ | ⟨kvs, hk⟩
        · obtain ⟨_, _, _, _, o, _, _, e, ex, _⟩ := I.hok p _ hk
          exact ⟨o, e, ex⟩
        · obtain ⟨_, _, _, _, o, _, _, e, ex, _⟩ := I.hok p _ hk
          exact ⟨o, e, ex⟩
      obtain ⟨o, e, ex⟩ := z
      refine ⟨⟨o, e, ex.1⟩, fun a e2 => ?_⟩
      cases e2
      exact ⟨o, e, ex.2.1⟩
    · obtain ⟨o, _, _, _, e, ex, _⟩ := I.hok p _ hk
      refine ⟨⟨o, e, ex.1⟩, fun a e2 => ?_⟩
      cases e2
      exact ⟨o, e, ex.2.1⟩
  | _ => exact False.elim ty
def tBM0 (K : PySem.W.Frag) (T : String) (r : V → List V → Hp → VK → Prop) (to : TE) : TE := fun σ H Q => to σ H fun x H1 => tyV K T x H1 ∧ r x [] H1 Q
def tBM (K : PySem.W.Frag) (T : String) (r : V → List V → Hp → VK → Prop) (to : TE) (t : TA) : TE := fun σ H Q => to σ H fun x H1 => tyV K T x H1 ∧ t σ H1 fun xs H2 => r x xs H2 Q
variable {o e : Expr} {es : List Expr} {to : TE} {t : TA} {name : Str} {apos cpos : Pos} {T id : String} {r : V → List V → Hp → VK → Prop}
theorem pe_bm0 (pa : PlainAttrs T) (slot : Slot T name id) (hty : typeOf (.builtin id) = pure (.type "method_descriptor")) (hm : MtR X id r) (ho : PE X o to)
    (hbase : attributeBase o name X.env (eval o X.env) = eval o X.env := by rfl) (hline : (apos.endLine == cpos.line) = true := by rfl) : PE X (.Call (.Attribute o name apos) [] [] cpos) (tBM0 X.K T r to) := by
  intro pins s σ H Q I h
  refine wpAny_Call_method0_late hbase hline (thn (ho pins s σ H _ I h) fun v s1 ⟨x, H1, I1, r1, ty, q1⟩ => ?_)
  obtain ⟨h1, h2⟩ := tyV_is I1 r1 ty
  exact ⟨T, id, pa, slot, hty, h1, h2, Calls.callWith_builtin rfl (PySem.evalArgs_none (hm pins s1 σ H1 x [] v [] Q I1 r1 .nil q1))⟩
theorem pe_bm (pa : PlainAttrs T) (slot : Slot T name id) (hty : typeOf (.builtin id) = pure (.type "method_descriptor")) (hm : MtR X id r) (ho : PE X o to) (ha : PA X (e :: es) t)
    (hbase : attributeBase o name X.env (eval o X.env) = eval o X.env := by rfl)
    (hfew : ((backTo cpos (starEach (e :: es) X.env)).all (fun x => !x.1) && (backToKw cpos (keywordEach [] X.env)).all (fun x => x.1.isSome)
      && decide ((e :: es).length + ([] : List Keyword).length + (if ([] : List Keyword).isEmpty then 0 else 1) < 30)) = true := by rfl)
    (hline : (apos.endLine == cpos.line) = true := by rfl) (hs : starEach (e :: es) X.env = (false, eval e X.env) :: starEach es X.env := by rfl) (hplain : (backTo cpos (starEach es X.env)).any (·.1) = false := by rfl) :
    PE X (.Call (.Attribute o name apos) (e :: es) [] cpos) (tBM X.K T r to t) := by
  intro pins s σ H Q I h
  refine wpAny_Call_method_late hbase hfew hline rfl (thn (ho pins s σ H _ I h) fun v s1 ⟨x, H1, I1, r1, ty, q1⟩ => ?_)
  obtain ⟨h1, h2⟩ := tyV_is I1 r1 ty
  refine ⟨T, id, pa, slot, hty, h1, h2, ?_⟩
  have hA := ha cpos pins s1 σ H1 _ I1 q1
  rw [hs] at hA ⊢
  refine Calls.callWith_builtin (by show (false || (backTo cpos (starEach es X.env)).any (·.1)) = false; rw [hplain] <;> rfl) (Calls.evalArgs_plain ?_)
  exact thn hA fun us s2 ⟨vs, H2, I2, r2, q2⟩ => hm pins s2 σ H2 x vs v us Q I2 r1 r2 q2
/- xs.append(e), list.index on a module's tuple .. are MtR facts of 06m -/
end
end L2
namespace L2
open PySem PySem.Spec PyProof.Rows
def MtM (X : Cx) (id : String) (r : V → List V → Hp → VK → Prop) : Prop :=
  ∀ (pins : List (Addr × Obj)) (s : Shared) (σ : St) (H : Hp) (x : V) (xs : List V) (v : Value) (us : List Value) (Q : VK), Inv X pins σ H s → RelV x v → Vals xs us → r x xs H Q →
    wpAny (model X.prog X.w) X.A (call (.builtin id) (v :: us)) (EP X pins σ Q) X.xe s
theorem Vals.one : ∀ {x : V} {us : List Value}, Vals [x] us → ∃ u, us = [u] ∧ RelV x u
  | _, _, .cons r .nil => ⟨_, rfl, r⟩
theorem Vals.rep {xs : List V} {us : List Value} (h : Vals xs us) : ∀ k : Nat, Vals (List.replicate k xs).flatten (List.replicate k us).flatten
  | 0 => .nil
  | k + 1 => by
    rw [List.replicate_succ, List.replicate_succ, List.flatten_cons, List.flatten_cons]
    exact Vals.append h (Vals.rep h k)
theorem foldl_rep (its : List Value) : ∀ (k : Nat) (acc : List Value),
    List.foldl (fun x1 x2 => x1 ++ x2) acc.toArray (List.replicate k its.toArray) = (acc ++ (List.replicate k its).flatten).toArray
  | 0, acc => by simp
  | k + 1, acc => by
    have e : acc.toArray ++ its.toArray = (acc ++ its).toArray := by simp
    have e2 : (acc ++ its) ++ (List.replicate k its).flatten = acc ++ (List.replicate (k + 1) its).flatten := by
      rw [List.replicate_succ, List.flatten_cons, List.append_assoc]
    rw [← e2, ← foldl_rep its k (acc ++ its), ← e, List.replicate_succ, List.foldl_cons]
section
variable {X : Cx} {pins : List (Addr × Obj)} {σ : St} {H : Hp} {s : Shared} {l b : Addr} {xs ys zs : List V}
theorem Inv.lset {its its' : List Value} {n : Nat} {f : Array Value → Array Value} {t' : Nat} (I : Inv X pins σ H s) (hH : H l = some (.lst xs))
    (e : s.heap.get? l = some { cls := .type "list", data := .seq its.toArray n }) (hf : f its.toArray = its'.toArray) (hv : Vals ys its') (hz : ys.length ≤ sizeLine) :
    Inv X pins σ (upd H l (.lst ys)) { s with heap := s.heap.update l (Obj.mapSeq f), toks := t' } := by
  have q := PySem.IsL.update e f
  rw [hf] at q
  refine I.write (x := l) (e := l) (by rw [hH]; exact trivial) (.inl rfl) (fun b' u hb hu => (Heap.get?_update_other s.heap (Obj.mapSeq f) (Ne.symm hb)).trans hu) ⟨_, q⟩ ?_
  exact ⟨hz, its', _, hv, q⟩
theorem Inv.lnew {its : List Value} {t' : Nat} (I : Inv X pins σ H s) (hv : Vals ys its) (hz : ys.length ≤ sizeLine) :
    Inv X pins σ (upd H s.heap.objs.size (.lst ys)) { s with heap := s.heap.push { cls := .type "list", data := .seq its.toArray }, toks := t' } :=
  I.laid (fun _ _ q => Heap.get?_push_of_some _ q) (Nat.le_refl _) ⟨hz, its, 0, hv, Heap.get?_push_size _ rfl⟩
theorem Inv.fresh (I : Inv X pins σ H s) : H s.heap.objs.size = none := I.hok.fresh (Nat.le_refl _)
theorem Inv.lstM (I : Inv X pins σ H s) (hH : H l = some (.lst xs)) : xs.length ≤ sizeLine ∧ ∃ (its : List Value) (n : Nat), Vals xs its ∧ xs.length = its.length ∧ s.heap.get? l = some { cls := .type "list", data := .seq its.toArray n } := by
  obtain ⟨z, its, n, r, e⟩ := I.hok l _ hH
  exact ⟨z, its, n, r, r.length, e⟩
theorem notLongL {n : Nat} (h : n ≤ sizeLine) : Builtin.List.listTooLong n = false := by
  unfold Builtin.List.listTooLong
  exact decide_eq_false (by omega)
end
section
variable {X : Cx}
def rAppend : V → List V → Hp → VK → Prop := fun x vs H Q => ∃ l xs y, x = .ref l ∧ vs = [y] ∧ H l = some (.lst xs) ∧ xs.length < sizeLine ∧ Q .non (upd H l (.lst (xs ++ [y])))
theorem mt_append : MtM X "list.append" rAppend := by
  intro pins s σ H x vs v us Q I rx rv h
  obtain ⟨l, xs, y, rfl, rfl, hH, hz, q⟩ := h
  cases rx
  obtain ⟨u, rfl, ru⟩ := rv.one
  obtain ⟨z, its, n, r, hl, e⟩ := I.lstM hH
  refine call_meets F.slot_list_append ⟨_, e, rfl⟩ F.entry_list_append (F.args_list_append_2 _ _) (PySem.list_append l its.toArray n u (by rw [List.size_toArray]; omega)) ⟨e, ?_⟩
  refine ⟨.non, _, I.lset (its' := its ++ [u]) hH e (by simp) (r.append (.cons ru .nil)) ?_, rfl, q⟩
  rw [List.length_append, List.length_singleton]
  omega
def rExtend : V → List V → Hp → VK → Prop := fun x vs H Q => ∃ l b xs zs, x = .ref l ∧ vs = [.ref b] ∧ H l = some (.lst xs) ∧ H b = some (.lst zs) ∧ xs.length + zs.length ≤ sizeLine ∧ Q .non (upd H l (.lst (xs ++ zs)))
theorem mt_extend : MtM X "list.extend" rExtend := by
  intro pins s σ H x vs v us Q I rx rv h
  obtain ⟨l, b, xs, zs, rfl, rfl, hH, hB, hz, q⟩ := h
  cases rx
  obtain ⟨u, rfl, ru⟩ := rv.one
  cases ru
  obtain ⟨z, its, n, r, hl, e⟩ := I.lstM hH
  obtain ⟨z2, its2, n2, r2, hl2, e2⟩ := I.lstM hB
  have hsz : its.toArray.size + its2.toArray.size ≤ sizeLine := by rw [List.size_toArray, List.size_toArray]; omega
  have hlong : ¬ (!its.toArray.isEmpty && Builtin.List.listTooLong (its.toArray.size + its2.toArray.size)) = true := by
    rw [notLongL hsz, Bool.and_false]
    exact Bool.false_ne_true
  refine call_meets F.slot_list_extend ⟨_, e, rfl⟩ F.entry_list_extend (F.args_list_extend_2 _ _)
    (AutoSeq1.list_extend_list_list_0 l its.toArray n b its2.toArray n2 hlong (by rw [List.size_toArray]; omega) (by omega)) ⟨e, e2, ?_⟩
  refine ⟨.non, _, I.lset (its' := its ++ its2) hH e (by simp) (r.append r2) ?_, rfl, q⟩
  rw [List.length_append]
  omega
def rCat : R2 := fun x y H Q => ∃ l b xs zs, x = .ref l ∧ y = .ref b ∧ H l = some (.lst xs) ∧ H b = some (.lst zs) ∧ xs.length + zs.length ≤ sizeLine ∧ ∀ p, H p = none → Q (.ref p) (upd H p (.lst (xs ++ zs)))
theorem op_cat : OpR X (binaryOp .Add) rCat := by
  intro pins s σ H x y v u Q I rx ry h
  obtain ⟨l, b, xs, zs, rfl, rfl, hH, hB, hz, q⟩ := h
  cases rx
  cases ry
  obtain ⟨z, its, n, r, hl, e⟩ := I.lstM hH
  obtain ⟨z2, its2, n2, r2, hl2, e2⟩ := I.lstM hB
  refine PySem.P.add_list e e2 ?_ (by rw [List.size_toArray, List.size_toArray]; omega)
  have ea : its.toArray ++ its2.toArray = (its ++ its2).toArray := by simp
  rw [ea]
  exact ⟨.ref _, _, I.lnew (t' := s.toks) (r.append r2) (by rw [List.length_append]; omega), rfl, q _ I.fresh⟩
def rRep : R2 := fun x y H Q => ∃ l k xs, x = .ref l ∧ y = .int k ∧ H l = some (.lst xs) ∧ -(2 ^ 63) ≤ k ∧ k < 2 ^ 63 ∧ xs.length * k.toNat ≤ sizeLine ∧
  ∀ p, H p = none → Q (.ref p) (upd H p (.lst (List.replicate k.toNat xs).flatten))
theorem len_rep {α : Type} (xs : List α) (k : Nat) : (List.replicate k xs).flatten.length = k * xs.length := by
  induction k with
  | zero => simp
  | succ k ih => rw [List.replicate_succ, List.flatten_cons, List.length_append, ih, Nat.succ_mul, Nat.add_comm]
theorem op_rep : OpR X (binaryOp .Mult) rRep := by
  intro pins s σ H x y v u Q I rx ry h
  obtain ⟨l, k, xs, rfl, rfl, hH, h1, h2, hz, q⟩ := h
  cases rx
  obtain ⟨t, rfl⟩ := ry
  obtain ⟨z, its, n, r, hl, e⟩ := I.lstM hH
  have hlen : its.toArray.size * k.toNat ≤ sizeLine := by rw [List.size_toArray, ← hl]; exact hz
  have hcap : ¬ its.toArray.size * k.toNat > (2 ^ 63 - 1) / 8 := by
    have : (sizeLine : Nat) ≤ (2 ^ 63 - 1) / 8 := by decide
    omega
  have hfit : ¬ (!Builtin.List.listFitsIndex k) = true := by
    rw [fitsIndex_both h1 h2]
    exact Bool.false_ne_true
  have hlong : ¬ Builtin.List.listTooLong (its.toArray.size * k.toNat) = true := by
    rw [notLongL hlen]
    exact Bool.false_ne_true
  have hnew : List.foldl (fun x1 x2 => x1 ++ x2) #[] (List.replicate (if its.toArray.isEmpty = true then 0 else k.toNat) its.toArray) = (List.replicate k.toNat its).flatten.toArray := by
    have f0 : ∀ m : Nat, List.foldl (fun x1 x2 => x1 ++ x2) #[] (List.replicate m its.toArray) = (List.replicate m its).flatten.toArray := fun m => by
      have := foldl_rep its m []
      rw [List.nil_append] at this
      exact this
    rw [f0]
    cases its with
    | nil => simp
    | cons a r' => rw [if_neg (by simp)]
  refine wpAny_binaryOp_repeat_ref (T := "list") (U := "int") (by decide) ⟨_, e, rfl⟩ (fun s' => typeIs_int s' k t) noFill_list_mul F.fills_int_mul F.slot_int_rmul repeat_list F.slot_int_index.lookup
    (call_meets F.slot_int_rmul (typeIs_int s k t) F.entry_int_rmul (F.args_int_rmul_2 _ _) (int___rmul___int_list k t l its.toArray n)
      ⟨e, rfl, ⟨_, e, rfl⟩, call_meets F.slot_list_mul ⟨_, e, rfl⟩ F.entry_list_mul (F.args_list_mul_2 _ _) (AutoListH.list___mul___list_int_3 l its.toArray n k t hfit hcap hlong) ⟨e, ?_⟩⟩)
  rw [hnew]
  exact ⟨.ref _, _, I.lnew (t' := s.toks) (r.rep k.toNat) (by rw [len_rep, Nat.mul_comm]; exact hz), rfl, q _ I.fresh⟩
end
section
variable {prog : Program} {w : World} {A : Around} {E : Value → Shared → Prop} {s : Shared}
set_option maxRecDepth 100000 in
end
section
variable {X : Cx}
end
end L2
namespace L2
open PySem PySem.Spec PyProof.Rows
theorem Vals.bls : ∀ {bs : List Bool} {us : List Value}, Vals (bs.map V.bl) us → us = bs.map Value.bool
  | [], us, h => by
    rw [List.map_nil] at h
    cases h
    rfl
  | b :: bs, us, h => by
    rw [List.map_cons] at h
    cases h with
    | cons r t =>
      cases r
      rw [Vals.bls t, List.map_cons]
theorem Vals.ref1 {a : Addr} {us : List Value} (r : Vals [V.ref a] us) : us = [Value.ref a] := by
  cases r with
  | cons r t =>
    cases t
    cases r
    rfl
section
variable {prog : Program} {w : World} {A : Around} {E : Value → Shared → Prop} {s : Shared} {l : Addr} {its : List Value} {ns : List Int} {Q : Value → Shared → Prop}
end
section
variable {X : Cx}
end
section
variable {X : Cx}
end
section
variable {X : Cx}
end
theorem iter_any {prog : Program} {w : World} {A : Around} {E : Value → Shared → Prop} {s : Shared} {l : Addr} {items : Array Value} {Q : Value → Shared → Prop} (hl : s.heap.IsList l items)
    (h : ∀ s₂ : Shared, s₂ = { s with heap := s.heap.push { cls := .type "list_iterator", data := .fields #[.ref l, .int 0 0] } } →
      (s₂.heap.IsListIter s.heap.objs.size l 0 ∧ s₂.heap.IsList l items) → l ≠ s.heap.objs.size → Q (.ref s.heap.objs.size) s₂) : wpAny (model prog w) A (pyIter (.ref l)) Q E s := by
  have hlt : l < s.heap.objs.size := by obtain ⟨_, e, _⟩ := hl; exact Heap.lt_size e
  exact wpAny_pyIter_list hl (h _ rfl ⟨⟨_, Heap.get?_push_size _ rfl, rfl, rfl⟩, hl.push _⟩ (Nat.ne_of_lt hlt))
theorem truth_bools {prog : Program} {w : World} {A : Around} {bs : List Bool} {its : List Value} (e : its = bs.map Value.bool) :
    TruthOf prog w A (fun i v => its.toArray[i]? = some v) (fun i => bs.getD i false) := fun i v s Q E hv hq => by
  have hv' : its[i]? = some v := by simpa using hv
  rw [e, List.getElem?_map] at hv'
  obtain ⟨b, hb, rfl⟩ := Option.map_eq_some_iff.mp hv'
  have hg : bs.getD i false = b := by rw [List.getD_eq_getElem?_getD, hb] <;> rfl
  have hq' : Q (bs.getD i false) s := hq
  rw [hg] at hq'
  exact wpAny_truthy_bool hq'
theorem any_range : ∀ bs : List Bool, (List.range bs.length).any (fun i => bs.getD i false) = bs.any id
  | [] => rfl
  | b :: bs => by
    rw [List.length_cons, List.range_succ_eq_map, List.any_cons, List.any_map, List.any_cons, ← any_range bs]
    all_goals rfl
theorem all_range : ∀ bs : List Bool, (List.range bs.length).all (fun i => bs.getD i false) = bs.all id
  | [] => rfl
  | b :: bs => by
    rw [List.length_cons, List.range_succ_eq_map, List.all_cons, List.all_map, List.all_cons, ← all_range bs]
    all_goals rfl
section
variable {X : Cx}
def rAll (K : PySem.W.Frag) : List V → Hp → VK → Prop := fun vs H Q => ∃ (a : Addr) (bs : List Bool), vs = [V.ref a] ∧ SqL K H a (bs.map V.bl) ∧ Q (.bl (bs.all id)) H
theorem cr_all (hc : X.calm = true) : CallR X (.builtin "all") (rAll X.K) := by
  intro pins s σ H vs us Q I r h
  obtain ⟨a, bs, rfl, hs, q⟩ := h
  obtain ⟨its, rv, hl, _⟩ := I.list hs
  rw [Vals.ref1 r]
  have hb := rv.bls
  refine call_all_walk (iter_any hl.isList fun s₂ e2 st hne => ?_)
  subst e2
  refine ⟨_, _, _, _, _, _, _, rfl, Walks.list (A := X.A.in1) (I.ok.hd hc) _ a hne its.toArray, st, truth_bools hb, fun h' tk hk => ?_⟩
  refine ⟨.bl _, H, I.kept fun b o eo => hk b o (fun hmem => ?_) (Heap.get?_push_of_some _ eo), ?_, q⟩
  · rcases List.mem_cons.mp hmem with e1 | hmem
    · exact absurd (e1 ▸ Heap.lt_size eo) (Nat.lt_irrefl _)
    · cases hmem
  · show Value.bool _ = Value.bool _
    rw [← all_range, hb, List.size_toArray, List.length_map]
end
section
variable {X : Cx} {pins : List (Addr × Obj)} {σ : St} {H : Hp} {s : Shared}
end
section
variable {X : Cx}
end
end L2
namespace L2
open PySem PySem.Spec PyProof.Rows
abbrev CellAt (h : Heap) (c : Addr) (v : Option Value) : Prop := h.IsCell c v
def relS (scope sc : Scope) : Scope :=
  { scope with names := scope.names.map fun (n, k) => if (k == .free && sc.kind == .function && sc.names.lookup n == some .cell) then (n, .cell) else (n, k) }
def cloFrom (cells : List (Str × Addr)) : List (Str × NameKind) → List (Str × Addr) → List (Str × Addr)
  | [], acc => acc
  | (n, k) :: r, acc => if k == .free then cloFrom cells r ((n, (cells.lookup n).getD 0) :: acc) else cloFrom cells r acc
theorem closure_loop (env : Env) (f : Str × NameKind → List (Str × Addr) → Sem (ForInStep (List (Str × Addr))))
    (hf : ∀ n k c, f (n, k) c = if k == .free then (do let a ← cellOf env n; pure (.yield ((n, a) :: c))) else pure (.yield c)) :
    ∀ (names : List (Str × NameKind)) (acc : List (Str × Addr)), (∀ y ∈ names, y.2 = .free → ∃ c, env.cells.lookup y.1 = some c) → forIn names acc f = pure (cloFrom env.cells names acc)
  | [], acc, _ => by rw [List.forIn_nil]; rfl
  | (n, k) :: r, acc, h => by
    rw [List.forIn_cons, hf]
    have ih := fun acc => closure_loop env f hf r acc fun y hy => h y (List.mem_cons_of_mem _ hy)
    unfold cloFrom
    by_cases hk : (k == NameKind.free) = true
    · rw [if_pos hk, if_pos hk]
      obtain ⟨c, hc⟩ := h (n, k) List.mem_cons_self (by simpa using hk)
      have e : cellOf env n = pure c := by unfold cellOf; rw [hc]
      rw [e]
      have e2 : (env.cells.lookup n).getD 0 = c := by rw [hc]; rfl
      rw [e2]
      exact ih _
    · rw [if_neg hk, if_neg hk]
      exact ih _
theorem closure_ok {scope : Scope} {env : Env} (h : ∀ y ∈ scope.names, y.2 = .free → ∃ c, env.cells.lookup y.1 = some c) : closureFor scope env = pure (cloFrom env.cells scope.names []) := by
  simp only [closureFor]
  rw [closure_loop env _ (fun n k c => rfl) scope.names [] h]
  rfl
theorem mem_lookup {α : Type} : ∀ {l : List (Str × α)} {n : Str} {c : α}, (n, c) ∈ l → ∃ c', l.lookup n = some c'
  | (k, v) :: r, n, c, h => by
    rw [List.lookup_cons]
    cases hb : n == k with
    | true => exact ⟨_, rfl⟩
    | false =>
      rcases List.mem_cons.mp h with e | h
      · cases e; simp at hb
      · exact mem_lookup h
theorem cloFrom_mem {cells : List (Str × Addr)} : ∀ {names : List (Str × NameKind)} {acc : List (Str × Addr)} {n : Str} {c : Addr}, (n, c) ∈ cloFrom cells names acc → (n, c) ∈ acc ∨ ((n, .free) ∈ names ∧ c = (cells.lookup n).getD 0)
  | [], _, _, _, h => .inl h
  | (m, k) :: r, acc, n, c, h => by
    unfold cloFrom at h
    split at h
    · rename_i hk
      have hk : k = .free := by simpa using hk
      rcases cloFrom_mem h with h | ⟨h1, h2⟩
      · rcases List.mem_cons.mp h with e | h
        · cases e; exact .inr ⟨hk ▸ List.mem_cons_self, rfl⟩
        · exact .inl h
      · exact .inr ⟨List.mem_cons_of_mem _ h1, h2⟩
    · rcases cloFrom_mem h with h | ⟨h1, h2⟩
      · exact .inl h
      · exact .inr ⟨List.mem_cons_of_mem _ h1, h2⟩
theorem cloFrom_acc {cells : List (Str × Addr)} : ∀ {names : List (Str × NameKind)} {acc : List (Str × Addr)} {p : Str × Addr}, p ∈ acc → p ∈ cloFrom cells names acc
  | [], _, _, h => h
  | (m, k) :: r, acc, p, h => by
    unfold cloFrom
    split
    · exact cloFrom_acc (List.mem_cons_of_mem _ h)
    · exact cloFrom_acc h
theorem cloFrom_has {cells : List (Str × Addr)} : ∀ {names : List (Str × NameKind)} {acc : List (Str × Addr)} {n : Str}, (n, .free) ∈ names → (n, (cells.lookup n).getD 0) ∈ cloFrom cells names acc
  | (m, k) :: r, acc, n, h => by
    unfold cloFrom
    rcases List.mem_cons.mp h with e | h
    · cases e
      exact cloFrom_acc List.mem_cons_self
    · split
      · exact cloFrom_has h
      · exact cloFrom_has h
theorem cells_mem : ∀ {names : List (Str × NameKind)} {h : Heap} {acc : List (Str × Addr)} {x : Str} {c : Addr}, (x, c) ∈ cellsFrom h.objs.size names acc →
    (x, c) ∈ acc ∨ ((x, .cell) ∈ names ∧ h.objs.size ≤ c ∧ CellAt (pushCells h names) c none)
  | [], _, _, _, _, h => .inl h
  | (n, k) :: r, h, acc, x, c, hm => by
    unfold cellsFrom at hm
    unfold pushCells
    split at hm
    · rename_i hk
      rw [if_pos hk]
      have hk : k = .cell := by simpa using hk
      rw [← Heap.size_push h { cls := .type "cell", data := .cell none }] at hm
      rcases cells_mem hm with hm | ⟨h1, h2, h3⟩
      · rcases List.mem_cons.mp hm with e | hm
        · cases e
          exact .inr ⟨hk ▸ List.mem_cons_self, Nat.le_refl _, _, pushCells_keeps r _ _ _ (Heap.get?_push_size _ rfl), rfl⟩
        · exact .inl hm
      · rw [Heap.size_push] at h2
        exact .inr ⟨List.mem_cons_of_mem _ h1, Nat.le_of_succ_le h2, h3⟩
    · rename_i hk
      rw [if_neg hk]
      rcases cells_mem hm with hm | ⟨h1, h2, h3⟩
      · exact .inl hm
      · exact .inr ⟨List.mem_cons_of_mem _ h1, h2, h3⟩
theorem cells_acc : ∀ {names : List (Str × NameKind)} {n : Nat} {acc : List (Str × Addr)} {p : Str × Addr}, p ∈ acc → p ∈ cellsFrom n names acc
  | [], _, _, _, h => h
  | (m, k) :: r, n, acc, p, h => by
    unfold cellsFrom
    split
    · exact cells_acc (List.mem_cons_of_mem _ h)
    · exact cells_acc h
theorem cells_has : ∀ {names : List (Str × NameKind)} {n : Nat} {acc : List (Str × Addr)} {x : Str}, (x, .cell) ∈ names → ∃ c, (x, c) ∈ cellsFrom n names acc
  | (m, k) :: r, n, acc, x, h => by
    unfold cellsFrom
    rcases List.mem_cons.mp h with e | h
    · cases e
      exact ⟨n, cells_acc List.mem_cons_self⟩
    · split
      · exact cells_has h
      · exact cells_has h
theorem cells_inj : ∀ {names : List (Str × NameKind)} {h : Heap} {acc : List (Str × Addr)} {x y : Str} {c : Addr}, (∀ p ∈ acc, p.2 < h.objs.size) → (∀ x y c, (x, c) ∈ acc → (y, c) ∈ acc → x = y) →
    (x, c) ∈ cellsFrom h.objs.size names acc → (y, c) ∈ cellsFrom h.objs.size names acc → x = y
  | [], _, _, _, _, _, _, hi, h1, h2 => hi _ _ _ h1 h2
  | (n, k) :: r, h, acc, x, y, c, hl, hi, h1, h2 => by
    unfold cellsFrom at h1 h2
    split at h1
    · rename_i hk
      rw [if_pos hk] at h2
      rw [← Heap.size_push h { cls := .type "cell", data := .cell none }] at h1 h2
      refine cells_inj (h := h.push _) (fun p hp => ?_) (fun x y c a b => ?_) h1 h2
      · rw [Heap.size_push]
        rcases List.mem_cons.mp hp with rfl | hp
        · exact Nat.lt_succ_self _
        · exact Nat.lt_succ_of_lt (hl p hp)
      · rcases List.mem_cons.mp a with e | a <;> rcases List.mem_cons.mp b with e' | b
        · cases e; cases e'; rfl
        · cases e; exact absurd (hl _ b) (Nat.lt_irrefl _)
        · cases e'; exact absurd (hl _ a) (Nat.lt_irrefl _)
        · exact hi _ _ _ a b
    · rename_i hk
      rw [if_neg hk] at h2
      exact cells_inj hl hi h1 h2
theorem newEnv_comp {M : Model} {A : Around} {E : Value → Shared → Prop} {s : Shared} {scope : Scope} {globals : Addr} {closure : List (Str × Addr)} {qual : Str} {func : Option Addr} {code : Value} {around : Env} {builtins : Addr} {Q : Env → Shared → Prop}
    (h : Q (newEnv scope s.heap.objs.size globals (cellsFrom (s.heap.objs.size + 1) scope.names closure) qual func code (some around) builtins)
      { s with heap := pushCells (s.heap.push { cls := .type "dict", data := .dict #[] }) scope.names }) :
    wpAny M A (newFunctionEnv scope globals closure [] qual func code (some around) builtins) Q E s := by
  simp only [newFunctionEnv, Option.isSome_some, if_true]
  refine wpAny_bind (wpAny_alloc ?_)
  refine wpAny_bind (wpAny_layCells _ (fun n k c => rfl) scope.names closure _ _ ?_)
  rw [show ({ s with heap := s.heap.push { cls := .type "dict", data := .dict #[] } } : Shared).heap.objs.size = s.heap.objs.size + 1 from Heap.size_push ..]
  rw [List.forIn_nil]
  exact wpAny_bind (wpAny_pure (wpAny_pure h))
theorem lookup_relS {sc : Scope} : ∀ {names : List (Str × NameKind)} {x : Str} {k : NameKind},
    (names.map fun (n, k) => if (k == NameKind.free && sc.kind == .function && sc.names.lookup n == some .cell) then (n, NameKind.cell) else (n, k)).lookup x = some k →
    ∃ k', names.lookup x = some k' ∧ (k = k' ∨ (k' = .free ∧ k = .cell))
  | [], _, _, h => by simp at h
  | (n, k₀) :: r, x, k, h => by
    have ih := @lookup_relS sc r x k
    have h' : List.lookup x ((if (k₀ == NameKind.free && sc.kind == .function && sc.names.lookup n == some .cell) = true then (n, NameKind.cell) else (n, k₀)) :: (r.map _)) = some k := h
    cases hx : x == n with
    | true =>
      simp only [List.lookup_cons, hx]
      by_cases hc : (k₀ == NameKind.free && sc.kind == .function && sc.names.lookup n == some .cell) = true
      · rw [if_pos hc] at h'
        simp only [List.lookup_cons, hx] at h'
        cases h'
        simp only [Bool.and_eq_true, beq_iff_eq] at hc
        exact ⟨k₀, rfl, .inr ⟨hc.1.1, rfl⟩⟩
      · rw [if_neg hc] at h'
        simp only [List.lookup_cons, hx] at h'
        cases h'
        exact ⟨_, rfl, .inl rfl⟩
    | false =>
      simp only [List.lookup_cons, hx]
      by_cases hc : (k₀ == NameKind.free && sc.kind == .function && sc.names.lookup n == some .cell) = true
      · rw [if_pos hc] at h'
        simp only [List.lookup_cons, hx] at h'
        exact ih h'
      · rw [if_neg hc] at h'
        simp only [List.lookup_cons, hx] at h'
        exact ih h'
structure BlkOk (N : List Str) (sc scope : Scope) (own : List (Str × Nat)) : Prop where
  kind : scope.kind = .function
  uniq : ∀ y ∈ scope.names, scope.names.lookup y.1 = some y.2
  ix : ∀ p ∈ own, N[p.2]? = some p.1
  free : ∀ y ∈ scope.names, y.2 = .free → sc.names.lookup y.1 = some .cell ∨ sc.names.lookup y.1 = some .free
  own : ∀ y ∈ scope.names, y.2 = .local ∨ y.2 = .cell → y.1 ∈ own.map (·.1) ∨ y.1 ∉ N
def wipe (σ : St) : List Nat → St
  | [] => σ
  | v :: vs => (wipe σ vs).set v none
theorem wipe_length (σ : St) : ∀ vs : List Nat, (wipe σ vs).length = σ.length
  | [] => rfl
  | v :: vs => by unfold wipe; rw [List.length_set, wipe_length σ vs]
theorem wipe_some {σ : St} {i : Nat} {x : V} : ∀ {vs : List Nat}, (wipe σ vs)[i]? = some (some x) → σ[i]? = some (some x) ∧ i ∉ vs
  | [], h => ⟨h, by simp⟩
  | v :: vs, h => by
    unfold wipe at h
    by_cases hi : v = i
    · subst hi
      by_cases hv : v < (wipe σ vs).length
      · rw [List.getElem?_set_self hv] at h; cases h
      · rw [List.getElem?_eq_none (by simpa using hv)] at h; cases h
    · rw [List.getElem?_set_ne hi] at h
      obtain ⟨h1, h2⟩ := wipe_some h
      exact ⟨h1, by simp only [List.mem_cons, not_or]; exact ⟨fun e => hi e.symm, h2⟩⟩
abbrev Cx.blk (X : Cx) (s : Shared) (H : Hp) (scope : Scope) (cenv : Env) (fp : List Addr) : Cx := { X with s_0 := s, H_0 := H, env := cenv, outer := X.stack, ex := fp, fn := fun x => scope.names.lookup x == some .cell, pn := [], xe := fun _ _ => False }
section
variable {X : Cx} {pins : List (Addr × Obj)} {σ : St} {H : Hp} {s : Shared}
theorem block_start {scope : Scope} {own : List (Str × Nat)} {fp : List Addr} (I : Inv X pins σ H s) (ok : BlkOk X.N X.env.scope scope own) (hN : X.N.Nodup) (hfp : ∀ b ∈ fp, FpOk X pins H b ∧ b < s.heap.objs.size) :
    Inv (X.blk s H scope (compEnvC scope (cellsFrom (s.heap.objs.size + 1) scope.names (cloFrom X.env.cells scope.names [])) s.heap.objs.size X.env) fp) [] (wipe σ (own.map (·.2))) H { s with heap := pushCells (s.heap.push { cls := .type "dict", data := .dict #[] }) scope.names } := by
  have hfree : ∀ y ∈ scope.names, y.2 = .free → ∃ c, X.env.cells.lookup y.1 = some c := fun y hy e => by
    rcases ok.free y hy e with k | k
    · exact I.ok.has _ (.inl k)
    · exact I.ok.has _ (.inr k)
  generalize hcenv : compEnvC scope (cellsFrom (s.heap.objs.size + 1) scope.names (cloFrom X.env.cells scope.names [])) s.heap.objs.size X.env = cenv
  have kp : ∀ b o, s.heap.get? b = some o → (pushCells (s.heap.push { cls := .type "dict", data := .dict #[] }) scope.names).get? b = some o := fun b o e => pushCells_keeps _ _ _ _ (Heap.get?_push_of_some _ e)
  have hL : cenv.locals = s.heap.objs.size := by rw [← hcenv]; rfl
  have hcl : cenv.cells = cellsFrom (s.heap.objs.size + 1) scope.names (cloFrom X.env.cells scope.names []) := by rw [← hcenv]; rfl
  have hsc : cenv.scope = relS scope X.env.scope := by rw [← hcenv]; rfl
  rw [← Heap.size_push s.heap { cls := .type "dict", data := .dict #[] }] at hcl
  have cm : ∀ {y c}, (y, c) ∈ cloFrom X.env.cells scope.names [] → X.env.cells.lookup y = some c ∧ c < s.heap.objs.size := fun {y c} hm => by
    rcases cloFrom_mem hm with hm | ⟨h1, rfl⟩
    · cases hm
    · obtain ⟨c, hc⟩ := hfree _ h1 rfl
      rw [hc]
      obtain ⟨w, z⟩ := I.cell _ _ hc
      exact ⟨rfl, z.lt⟩
  have mem : ∀ {y c}, cenv.cells.lookup y = some c → (X.env.cells.lookup y = some c ∧ c < s.heap.objs.size) ∨ (s.heap.objs.size + 1 ≤ c ∧ CellAt (pushCells (s.heap.push { cls := .type "dict", data := .dict #[] }) scope.names) c none) := fun {y c} e => by
    rw [hcl] at e
    rcases cells_mem (PySem.mem_of_lookup e) with hm | ⟨_, h2, h3⟩
    · exact .inl (cm hm)
    · rw [Heap.size_push] at h2; exact .inr ⟨h2, h3⟩
  have look : ∀ {y}, scope.names.lookup y = some .free → ∃ c, cenv.cells.lookup y = some c ∧ X.env.cells.lookup y = some c := fun {y} hl => by
    have hy : (y, NameKind.free) ∈ scope.names := PySem.mem_of_lookup hl
    obtain ⟨c', e'⟩ := mem_lookup (cells_acc (names := scope.names) (n := (s.heap.push { cls := .type "dict", data := .dict #[] }).objs.size) (cloFrom_has (cells := X.env.cells) (acc := []) hy))
    rw [← hcl] at e'
    refine ⟨c', e', ?_⟩
    rw [hcl] at e'
    rcases cells_mem (PySem.mem_of_lookup e') with hm | ⟨h1, _, _⟩
    · exact (cm hm).1
    · have := ok.uniq _ h1
      rw [hl] at this; cases this
  have okB : (X.blk s H scope cenv fp).Ok := by
    refine ⟨I.ok.mod, by show cenv.scope.kind = _; rw [hsc]; exact ok.kind, by show cenv.globals = _; rw [← hcenv]; exact I.ok.glob, by show cenv.builtins = _; rw [← hcenv]; exact I.ok.blt, by show s.heap.objs.size ≤ cenv.locals; rw [hL]; exact Nat.le_refl _,
      fun y z c e1 e2 => ?_, fun y hy => ?_, fun y c z e => ?_, I.ok.hd, I.ok.frames, .inl rfl, fun b hb => ⟨?_, fun y c e z => ?_⟩, I.bs, Nat.le_trans I.ok.bsz I.sz, fun b o e hb => ?_, fun b hb z => ?_, I.stack, I.stkFree⟩
    · have e1 : cenv.cells.lookup y = some c := e1
      have e2 : cenv.cells.lookup z = some c := e2
      rw [hcl] at e1 e2
      refine cells_inj (fun p hp => ?_) (fun y z c a b => I.ok.inj y z c (cm a).1 (cm b).1) (PySem.mem_of_lookup e1) (PySem.mem_of_lookup e2)
      rw [Heap.size_push]
      exact Nat.lt_succ_of_lt (cm (y := p.1) (c := p.2) hp).2
    · show ∃ c, cenv.cells.lookup y = some c
      have key : ∀ k, cenv.kindOf y = some k → (k = .cell ∨ k = .free) → ∃ c, cenv.cells.lookup y = some c := fun k hk hk' => by
        unfold Env.kindOf at hk
        rw [hsc] at hk
        obtain ⟨k', e, r⟩ := lookup_relS hk
        have : k' = .cell ∨ k' = .free := by
          rcases r with rfl | ⟨rfl, _⟩
          · exact hk'
          · exact .inr rfl
        rcases this with rfl | rfl
        · obtain ⟨c, hm⟩ := cells_has (n := (s.heap.push { cls := .type "dict", data := .dict #[] }).objs.size) (acc := cloFrom X.env.cells scope.names []) (PySem.mem_of_lookup e)
          obtain ⟨c', e'⟩ := mem_lookup hm
          exact ⟨c', by rw [hcl]; exact e'⟩
        · obtain ⟨c, h1, _⟩ := look e
          exact ⟨c, h1⟩
      rcases hy with hy | hy
      · exact key _ hy (.inl rfl)
      · exact key _ hy (.inr rfl)
    · have z : (scope.names.lookup y == some NameKind.cell) = true := z
      have z : scope.names.lookup y = some .cell := by simpa using z
      have e : cenv.cells.lookup y = some c := e
      rw [hcl] at e
      rcases cells_mem (PySem.mem_of_lookup e) with hm | ⟨_, h2, _⟩
      · rcases cloFrom_mem hm with hm | ⟨h1, _⟩
        · cases hm
        · have q := ok.uniq _ h1
          rw [z] at q; cases q
      · rw [Heap.size_push] at h2
        exact Nat.le_of_succ_le h2
    · show b ≠ cenv.locals
      rw [hL]; exact Nat.ne_of_lt (hfp b hb).2
    · have e : cenv.cells.lookup y = some c := e
      rcases mem e with ⟨h1, _⟩ | ⟨h1, _⟩
      · exact (hfp b hb).1.2.2.2.2.1 y c h1 z
      · have h2 : s.heap.objs.size + 1 ≤ b := by rw [← z]; exact h1
        exact absurd (Nat.lt_of_lt_of_le (hfp b hb).2 (Nat.le_of_succ_le h2)) (Nat.lt_irrefl _)
    · rcases (hfp b hb).1.2.2.2.1 with z | z
      · exact I.ok.noex b o e z
      · exact absurd (Nat.lt_of_lt_of_le (Heap.lt_size e) (Nat.le_trans I.ok.bsz z)) (Nat.lt_irrefl _)
    · rcases List.mem_cons.mp (I.stkSub b z) with z | z
      · exact (hfp b hb).1.2.1 z
      · exact (hfp b hb).1.2.2.1 z
  refine ⟨okB, rfl, I.bare, Un.kept kp, ⟨fun _ => none, ?_, fun i y av e1 e2 e3 => ?_⟩, fun y c e => ?_, ?_, fun y c e => ?_, fun p hp => ?_, I.hok.kept kp, by rw [wipe_length]; exact I.len⟩
  · show Heap.Ns _ cenv.locals _
    rw [hL]
    exact Heap.Ns.keeps (Heap.Ns.new ..) fun b o e => pushCells_keeps _ _ _ _ e
  · obtain ⟨e2, hne⟩ := wipe_some e2
    have hfr : scope.names.lookup y = some .free ∧ (cenv.kindOf y = some .cell ∨ cenv.kindOf y = some .free) := by
      have key : ∀ k, cenv.scope.names.lookup y = some k → k = .local ∨ k = .cell ∨ k = .free → scope.names.lookup y = some .free ∧ (cenv.kindOf y = some .cell ∨ cenv.kindOf y = some .free) := fun k hk hk' => by
        have hk0 := hk
        rw [hsc] at hk
        obtain ⟨k', e, r⟩ := lookup_relS hk
        have no : ¬ (k' = .local ∨ k' = .cell) := fun hh => by
          rcases ok.own _ (PySem.mem_of_lookup e) hh with e' | e'
          · obtain ⟨p, hp, hpy⟩ := List.mem_map.mp e'
            have e3 := ok.ix p hp
            have : p.1 = y := hpy
            rw [this] at e3
            exact hne (List.mem_map.mpr ⟨p, hp, nodup_ix hN e3 e1⟩)
          · exact e' (List.mem_of_getElem? e1)
        rcases r with rfl | ⟨rfl, rfl⟩
        · rcases hk' with rfl | rfl | rfl
          · exact absurd (.inl rfl) no
          · exact absurd (.inr rfl) no
          · exact ⟨e, .inr hk0⟩
        · exact ⟨e, .inl hk0⟩
      have e3 : Vis cenv.scope y := e3
      rcases e3 with e3 | e3 | e3
      · exact key _ e3 (.inl rfl)
      · exact key _ e3 (.inr (.inl rfl))
      · exact key _ e3 (.inr (.inr rfl))
    obtain ⟨m, hn, hl⟩ := I.loc
    have hvis : Vis X.env.scope y := (ok.free _ (PySem.mem_of_lookup hfr.1) rfl).elim (fun k => .inr (.inl k)) (fun k => .inr (.inr k))
    obtain ⟨w, r, q⟩ := hl i y av e1 e2 hvis
    refine ⟨w, r, .inr ⟨hfr.2, ?_⟩⟩
    obtain ⟨c, h1, h2⟩ := look hfr.1
    rcases q with ⟨k, _⟩ | ⟨_, c', e', z⟩
    · have k : X.env.scope.names.lookup y = some .local := k
      rcases ok.free _ (PySem.mem_of_lookup hfr.1) rfl with k' | k' <;> rw [show X.env.scope.names.lookup y = _ from k'] at k <;> cases k
    · rw [h2] at e'; cases e'
      exact ⟨c, h1, z.keeps kp⟩
  · have e : cenv.cells.lookup y = some c := e
    rcases mem e with ⟨h1, _⟩ | ⟨_, z⟩
    · obtain ⟨w, z⟩ := I.cell y c h1
      exact ⟨w, z.keeps kp⟩
    · exact ⟨_, z⟩
  · show H cenv.locals = none
    rw [hL]; exact I.hok.fresh (Nat.le_refl _)
  · have e : cenv.cells.lookup y = some c := e
    rcases mem e with ⟨h1, _⟩ | ⟨h1, _⟩
    · exact I.freeC y c h1
    · exact I.hok.fresh (Nat.le_of_succ_le h1)
  · exact absurd (show p ∈ ([] : List (Addr × Obj)) ++ [] from hp) (by simp)
theorem app_ok {E : Value → Shared → Prop} {D : Addr} {xs : List V} {y : V} {v : Value} {Q : Value → Shared → Prop} (I : Inv X pins σ H s) (hD : H D = some (.lst xs)) (hz : xs.length < sizeLine) (r : RelV y v)
    (h : ∀ s', Inv X pins σ (upd H D (.lst (xs ++ [y]))) s' → Q .none s') : wpAny (model X.prog X.w) X.A (call (.builtin "list.append") [.ref D, v]) Q E s := by
  obtain ⟨hz', its, n, ri, e⟩ := I.hok D _ hD
  have hl := ri.length
  refine append_at (hsz := by rw [List.size_toArray]; omega) e fun h' sb ho' => ?_
  refine h { s with heap := h' } (I.write (t' := s.toks) (by rw [hD]; trivial) (.inl rfl) (fun b u hb q => (sb.2 b hb).trans q) ⟨_, ho'⟩ ⟨by rw [List.length_append]; exact hz, its ++ [v], n + 1, ri.append (.cons r .nil), ?_⟩)
  rw [ho']
  simp
def PTs (X : Cx) (ifs : List Expr) (t : TT) : Prop :=
  ∀ (pins : List (Addr × Obj)) (s : Shared) (σ : St) (H : Hp) (Q : Bool → Hp → Prop), Inv X pins σ H s → t σ H Q →
    wpAny (model X.prog X.w) X.A (forIn ifs true fun c r => if r = true then do let ok ← isTrue c X.env (eval c X.env); pure (ForInStep.yield ok) else pure (ForInStep.yield r)) (TP X pins σ Q) X.xe s
def tYes : TT := fun _ H Q => Q true H
theorem pts_nil : PTs X [] tYes := fun _ _ _ H _ I h => wpAny_tests_nil ⟨H, I, h⟩
end
theorem thnF {α : Type} {t : Sem α} {Q Q' : α → Shared → Prop} {M : Model} {A : Around} {E : Value → Shared → Prop} {s : Shared} (h : wpAny M A t Q (fun _ _ => False) s) (hQ : ∀ a s, Q a s → Q' a s) : wpAny M A t Q' E s := wpAny_mono h hQ fun _ _ z => False.elim z
theorem compLoop_any {prog : Program} {w : World} {A : Around} {R : Result → Shared → Prop} {s : Shared} {elt target iter : Expr} {ifs : List Expr} {scope : Scope} {pos : Pos} {it acc : Value} {env : Env} (I : Nat → Shared → Prop)
    (turn : ∀ n s, I n s → wpAny (model prog w) A (pyNext it) (fun r s₁ => match r with
      | none => R (.ok .next) s₁
      | some v => wpAny (model prog w) A (letOwnedTupleGo target it v) (fun _ s₁' => wpAny (model prog w) A (assign target env v) (fun _ s₂ =>
          wpAny (model prog w) A (forIn ifs true fun c r => if r = true then do let ok ← isTrue c env (eval c env); pure (ForInStep.yield ok) else pure (ForInStep.yield r)) (fun ok s₃ =>
            if ok = true then wpAny (model prog w) A (eval elt env) (fun x s₄ =>
              wpAny (model prog w) A (call (.builtin "list.append") [acc, x]) (fun _ s₅ => ∃ m, m < n ∧ I m s₅) (notedBy (model prog w) A env fun e s' => R (.error e) s') s₄) (notedBy (model prog w) A env fun e s' => R (.error e) s') s₃
            else ∃ m, m < n ∧ I m s₃) (notedBy (model prog w) A env fun e s' => R (.error e) s') s₂) (notedBy (model prog w) A env fun e s' => R (.error e) s') s₁') (notedBy (model prog w) A env fun e s' => R (.error e) s') s₁) (notedBy (model prog w) A env fun e s' => R (.error e) s') s)
    (n : Nat) (h : I n s) :
    codeAny (model prog w) A (.compLoop (.ListComp elt [⟨target, iter, ifs, 0⟩] scope pos) 0 it acc env) R s := by
  refine codeAny_loop rfl I (fun n s hI => ?_) n h
  show wpAny _ A ((compTurn (.ListComp elt [⟨target, iter, ifs, 0⟩] scope pos) 0 it acc env).onRaise (fun x => do noteFrame x env; theTreesLotGoes x)) _ _ s
  refine wpAny_noted ?_
  rw [compTurn_list]
  refine wpAny_bind (wpAny_standAt (wpAny_bind (wpAny_mono (turn n s hI) (fun r s₁ h₁ => ?_) fun _ _ h' => h')))
  cases r with
  | none => exact wpAny_pure h₁
  | some v =>
    refine wpAny_bind (wpAny_mono h₁ (fun _ s₁' h₁' => ?_) fun _ _ h' => h')
    refine wpAny_bind (wpAny_mono h₁' (fun _ s₂ h₂ => wpAny_bind (wpAny_mono h₂ (fun ok s₃ h₃ => ?_) fun _ _ h' => h')) fun _ _ h' => h')
    cases ok with
    | false => exact wpAny_pure ⟨rfl, h₃⟩
    | true =>
      exact wpAny_bind (wpAny_bind (wpAny_mono h₃ (fun x s₄ h₄ => wpAny_bind (wpAny_mono h₄ (fun _ s₅ h₅ => wpAny_pure (wpAny_pure ⟨rfl, h₅⟩)) fun _ _ h' => h')) fun _ _ h' => h'))
section
variable {X : Cx}
def tLc (wi : TI) (g : TG) (tt : TT) (te : TE) (vs : List Nat) : TE := fun σ H Q => wi σ H fun J H1 => ∀ D, H1 D = none → ∃ W : Nat → Nat → Hp → Prop, (∃ m, W 0 m (upd H1 D (.lst []))) ∧ ∀ i m H, W i m H →
  (J.stop i H ∧ Q (.ref D) H) ∨ (J.go i H ∧ ∃ Nx : Hp → Prop, (∀ H', Nx H' → ∃ m', m' < m ∧ W (i + 1) m' H') ∧ ∀ x H', J.yld i H x H' → g x (wipe σ vs) H' fun σ2 H2 => wipe σ2 vs = wipe σ vs ∧ tt σ2 H2 fun b H3 =>
    if b = true then te σ2 H3 fun y H4 => ∃ acc, H4 D = some (.lst acc) ∧ acc.length < sizeLine ∧ Nx (upd H4 D (.lst (acc ++ [y]))) else Nx H3)
theorem lc_core {pins : List (Addr × Obj)} {s : Shared} {σ : St} {H : Hp} {Q : VK} {elt tg iter : Expr} {ifs : List Expr} {scope : Scope} {own : List (Str × Nat)} {pos pos' : Pos} {wi : TI} {g : TG} {tt : TT} {te : TE} {use : Option (Value → Sem Unit)} {Qf : Value → Shared → Prop}
    (hc : X.calm = true) (hN : X.N.Nodup) (I : Inv X pins σ H s) (hi : PI X tg iter wi) (ok : BlkOk X.N X.env.scope scope own)
    (hg : ∀ (s : Shared) (H : Hp) (C : Addr) (cl : List (Str × Addr)) (fp : List Addr), PG (X.blk s H scope (compEnvC scope cl C X.env) fp) tg g) (ht : ∀ (s : Shared) (H : Hp) (C : Addr) (cl : List (Str × Addr)) (fp : List Addr), PTs (X.blk s H scope (compEnvC scope cl C X.env) fp) ifs tt)
    (he : ∀ (s : Shared) (H : Hp) (C : Addr) (cl : List (Str × Addr)) (fp : List Addr), PE (X.blk s H scope (compEnvC scope cl C X.env) fp) elt te) (hs : ∀ x, foldedSetIterable iter X.env x = pure x)
    (h : tLc wi g tt te (own.map (·.2)) σ H Q)
    (hRR : ∀ D C s' m H', Inv X pins σ H' s' → Q (.ref D) H' → s'.heap.Ns C m → FpOk X pins H' C → compPost (model X.prog X.w) X.A X.xe use Qf (.ref D) C (.ok .next) s') :
    wpAny (model X.prog X.w) X.A (comprehension (.ListComp elt [⟨tg, iter, ifs, 0⟩] scope pos) scope X.env pos' (newList []) false (eval iter X.env) use) Qf X.xe s := by
  have hfree : ∀ y ∈ scope.names, y.2 = .free → ∃ c, X.env.cells.lookup y.1 = some c := fun y hy e => by
    rcases ok.free y hy e with k | k
    · exact I.ok.has _ (.inl k)
    · exact I.ok.has _ (.inr k)
  refine wpAny_comprehension_free (use := use) rfl hs (closure_ok hfree) ok.kind (fun y hy e => by rw [ok.uniq y hy, e])
    (thn (hi pins s σ H _ I h) fun xv s1 hx => thn hx fun itv s2 h2 => ?_)
  obtain ⟨it, fp, tn, J, H2, e, I2, T, st2, f2, q⟩ := h2
  subst e
  refine wpAny_newObj_type (newEnv_comp ?_) (by show 0 ≤ sizeLine; decide)
  generalize hD : s2.heap.objs.size = D
  have hDn : H2 D = none := I2.hok.fresh (Nat.le_of_eq hD)
  obtain ⟨W, ⟨m0, w0⟩, turn⟩ := q D hDn
  -- the new list
  generalize hs3 : ({ s2 with heap := s2.heap.push { cls := .type "list", data := .seq ([] : List Value).toArray } } : Shared) = s3
  have I3 : Inv X pins σ (upd H2 D (.lst [])) s3 := by
    rw [← hs3]
    refine I2.laid (t' := s2.toks) (fun b o e => Heap.get?_push_of_some _ e) (Nat.le_of_eq hD) ⟨Nat.zero_le _, [], 0, .nil, ?_⟩
    rw [← hD]
    exact Heap.get?_push_size _ rfl
  have h3 : s3.heap = s2.heap.push { cls := .type "list", data := .seq ([] : List Value).toArray } := by rw [← hs3]
  have sz : ∀ b ∈ fp, b < s2.heap.objs.size := fun b hb => by
    obtain ⟨o, e, _⟩ := T.obj _ _ st2 b hb
    exact Heap.lt_size e
  have f3 : ∀ b ∈ fp, FpOk X pins (upd H2 D (.lst [])) b ∧ b < s3.heap.objs.size := fun b hb => by
    have hlt := sz b hb
    refine ⟨⟨?_, (f2 b hb).2⟩, by rw [h3, Heap.size_push]; exact Nat.lt_succ_of_lt hlt⟩
    rw [upd_ne (by rw [← hD]; exact Nat.ne_of_lt hlt)]
    exact (f2 b hb).1
  have st3 : tn 0 s3.heap := T.keep _ _ _ st2 fun b _ o e => by rw [h3]; exact Heap.get?_push_of_some _ e
  have I4 := block_start I3 ok hN f3
  have pg := hg s3 (upd H2 D (.lst [])) s3.heap.objs.size (cellsFrom (s3.heap.objs.size + 1) scope.names (cloFrom X.env.cells scope.names [])) fp
  have pt := ht s3 (upd H2 D (.lst [])) s3.heap.objs.size (cellsFrom (s3.heap.objs.size + 1) scope.names (cloFrom X.env.cells scope.names [])) fp
  have pe := he s3 (upd H2 D (.lst [])) s3.heap.objs.size (cellsFrom (s3.heap.objs.size + 1) scope.names (cloFrom X.env.cells scope.names [])) fp
  show codeAny _ _ (.compStart (.ListComp elt [⟨tg, iter, ifs, 0⟩] scope pos) 0 (.ref it) (.ref D) (compEnvC scope (cellsFrom (s3.heap.objs.size + 1) scope.names (cloFrom X.env.cells scope.names [])) s3.heap.objs.size X.env)) (compPost (model X.prog X.w) X.A X.xe use Qf (.ref D) s3.heap.objs.size) { s3 with heap := pushCells (s3.heap.push { cls := .type "dict", data := .dict #[] }) scope.names }
  have nfp : ∀ b ∈ fp, (upd H2 D (.lst [])) b = none := fun b hb => (f3 b hb).1.1
  generalize hce : compEnvC scope (cellsFrom (s3.heap.objs.size + 1) scope.names (cloFrom X.env.cells scope.names [])) s3.heap.objs.size X.env = ce at I4 pg pt pe ⊢
  have cL : ce.locals = s3.heap.objs.size := by subst hce; rfl
  generalize hH3 : upd H2 D (.lst []) = H3 at I3 I4 pg pt pe w0 nfp f3
  generalize hs4 : ({ s3 with heap := pushCells (s3.heap.push { cls := .type "dict", data := .dict #[] }) scope.names } : Shared) = s4 at I4 ⊢
  have st4 : tn 0 s4.heap := T.keep _ _ _ st3 fun b _ o e => by rw [← hs4]; exact pushCells_keeps _ _ _ _ (Heap.get?_push_of_some _ e)
  have stat : ∀ {σ' : St} {H' : Hp} {s' : Shared}, Inv (X.blk s3 H3 scope ce fp) [] σ' H' s' → (∀ b ∈ fp, H' b = none) → ∀ b ∈ fp, FpOk (X.blk s3 H3 scope ce fp) [] H' b := fun {σ' H' s'} I' hn b hb =>
    ⟨hn b hb, (I'.ok.exf b hb).1, I'.ok.exfs b hb, .inl hb, fun x c e => (I'.ok.exf b hb).2 x c e, fun p hp => absurd (show p ∈ ([] : List (Addr × Obj)) ++ [] from hp) (by simp)⟩
  have loop : codeAny (model X.prog X.w) X.A (.compLoop (.ListComp elt [⟨tg, iter, ifs, 0⟩] scope pos) 0 (.ref it) (.ref D) ce) (compPost (model X.prog X.w) X.A X.xe use Qf (.ref D) s3.heap.objs.size) s4 := by
    refine compLoop_any (fun n s' => ∃ i H', Inv (X.blk s3 H3 scope ce fp) [] (wipe σ (own.map (·.2))) H' s' ∧ tn i s'.heap ∧ (∀ b ∈ fp, H' b = none) ∧ W i n H') ?_ m0 ⟨0, H3, I4, st4, nfp, w0⟩
    rintro n s5 ⟨i, H5, I5, st5, n5, w5⟩
    rcases turn i n H5 w5 with ⟨stop, qq⟩ | ⟨go, Nx, hNx, step⟩
    · have td := T.done (X.blk s3 H3 scope ce fp) rfl rfl rfl hc i [] s5 _ H5 (fun _ _ => False) I5 (stat I5 n5) st5 stop
      refine thnF td fun r s6 ⟨hr, I6⟩ => ?_
      subst hr
      -- back in the def's context
      have I7 : Inv X pins σ H5 s6 := I3.call' (ch := fp) I6.os I6.base I6.hok I6.bare fun b hb => ⟨(f3 b hb).1.2.2.2.1, (f3 b hb).1.2.1, (f3 b hb).1.2.2.2.2.1, (f3 b hb).1.2.2.2.2.2⟩
      have nC : H5 s3.heap.objs.size = none := by
        have z : H5 ce.locals = none := I6.free
        rw [cL] at z
        exact z
      obtain ⟨m, hn, _⟩ := I6.loc
      have hn : s6.heap.Ns ce.locals m := hn
      rw [cL] at hn
      exact hRR D s3.heap.objs.size s6 m H5 I7 qq hn (I3.fpOk (Nat.le_refl _) nC)
    · have ti := T.item (X.blk s3 H3 scope ce fp) rfl rfl rfl hc i [] s5 _ H5 (fun _ _ => False) I5 (stat I5 n5) st5 go
      refine thnF ti fun r s6 ⟨u, hr, h6⟩ => ?_
      subst hr
      refine thnF h6 fun _ s7 ⟨x, H7, I7, r7, y7, st7, n7⟩ => ?_
      have I7' := I7.pinned (stat I7 n7) (T.obj _ _ st7)
      refine thnF (pg _ s7 _ H7 x u _ I7' r7 (step x H7 y7)) fun _ s8 ⟨σ8, H8, I8, hw8, q8⟩ => ?_
      refine thnF (pt _ s8 σ8 H8 _ I8 q8) fun b s9 ⟨H9, I9, q9⟩ => ?_
      -- the turn's end
      have fin : ∀ {s' : Shared} {H' : Hp}, Inv (X.blk s3 H3 scope ce fp) ([] ++ pinsAt fp s7.heap) σ8 H' s' → Nx H' → ∃ m, m < n ∧ ∃ i H', Inv (X.blk s3 H3 scope ce fp) [] (wipe σ (own.map (·.2))) H' s' ∧ tn i s'.heap ∧ (∀ b ∈ fp, H' b = none) ∧ W i m H' := fun {s' H'} I' nx => by
        obtain ⟨m', hm, w'⟩ := hNx H' nx
        have pin' : ∀ b ∈ fp, ∀ o, s7.heap.get? b = some o → s'.heap.get? b = some o ∧ H' b = none := fun b hb o e =>
          let z := I'.pin (b, o) (List.mem_append_right _ (List.mem_append_right _ (mem_pinsAt hb e)))
          ⟨z.1, z.2.1⟩
        have hl : (wipe σ (own.map (·.2))).length = σ8.length := by rw [← hw8, wipe_length]
        refine ⟨m', hm, i + 1, H', (I'.unpinned (pins := [])).weak hl (fun j v e => ?_), T.keep _ _ _ st7 fun b hb o e => (pin' b hb o e).1, fun b hb => ?_, w'⟩
        · rw [← hw8] at e
          exact (wipe_some e).1
        · obtain ⟨o, e, _⟩ := T.obj _ _ st7 b hb
          exact (pin' b hb o e).2
      cases b with
      | false =>
        simp only [Bool.false_eq_true, if_false] at q9 ⊢
        exact fin I9 q9
      | true =>
        simp only [if_true] at q9 ⊢
        refine thnF (pe _ s9 σ8 H9 _ I9 q9) fun z s10 ⟨yv, H10, I10, r10, acc, hD10, hz10, nx⟩ => ?_
        exact app_ok (X := X.blk s3 H3 scope ce fp) I10 hD10 hz10 r10 fun s11 I11 => fin I11 nx
  exact codeAny_compStart_list loop (T.self X.A 0 _ _ _ st4 loop)
theorem pe_lc {elt tg iter : Expr} {ifs : List Expr} {scope : Scope} {own : List (Str × Nat)} {pos : Pos} {wi : TI} {g : TG} {tt : TT} {te : TE} (hc : X.calm = true) (hN : X.N.Nodup) (hi : PI X tg iter wi) (ok : BlkOk X.N X.env.scope scope own)
    (hg : ∀ (s : Shared) (H : Hp) (C : Addr) (cl : List (Str × Addr)) (fp : List Addr), PG (X.blk s H scope (compEnvC scope cl C X.env) fp) tg g) (ht : ∀ (s : Shared) (H : Hp) (C : Addr) (cl : List (Str × Addr)) (fp : List Addr), PTs (X.blk s H scope (compEnvC scope cl C X.env) fp) ifs tt)
    (he : ∀ (s : Shared) (H : Hp) (C : Addr) (cl : List (Str × Addr)) (fp : List Addr), PE (X.blk s H scope (compEnvC scope cl C X.env) fp) elt te) (hs : ∀ x, foldedSetIterable iter X.env x = pure x := by intro _; rfl) :
    PE X (.ListComp elt [⟨tg, iter, ifs, 0⟩] scope pos) (tLc wi g tt te (own.map (·.2))) := by
  intro pins s σ H Q I h
  rw [eval_ListComp]
  refine lc_core hc hN I hi ok hg ht he hs h fun D C s' m H' I' q hn f => ⟨m, hn, fun h'' sb => ?_⟩
  obtain ⟨f0, f1, f2, f3, f4, f5⟩ := f
  exact ⟨.ref D, H', I'.turned (t' := s'.toks) (fun b o hb e => (sb.2 b hb).trans e) f0 f1 f3 f4 f5, rfl, q⟩
end
theorem lc_range {lo : Int} {n : Nat} {g : TG} {tt : TT} {te : TE} {vs : List Nat} {σ : St} {H1 : Hp} {D : Addr} {Qd : Hp → Prop} (Pv : Nat → Hp → Prop) (h0 : Pv 0 (upd H1 D (.lst [])))
    (hs : ∀ i H, i < n → Pv i H → g (.int (lo + i)) (wipe σ vs) H fun σ2 H2 => wipe σ2 vs = wipe σ vs ∧ tt σ2 H2 fun b H3 =>
      if b = true then te σ2 H3 fun y H4 => ∃ acc, H4 D = some (.lst acc) ∧ acc.length < sizeLine ∧ Pv (i + 1) (upd H4 D (.lst (acc ++ [y]))) else Pv (i + 1) H3) (hd : ∀ H, Pv n H → Qd H) :
    ∃ W : Nat → Nat → Hp → Prop, (∃ m, W 0 m (upd H1 D (.lst []))) ∧ ∀ i m H, W i m H →
      ((Itr lo n).stop i H ∧ Qd H) ∨ ((Itr lo n).go i H ∧ ∃ Nx : Hp → Prop, (∀ H', Nx H' → ∃ m', m' < m ∧ W (i + 1) m' H') ∧ ∀ x H', (Itr lo n).yld i H x H' → g x (wipe σ vs) H' fun σ2 H2 => wipe σ2 vs = wipe σ vs ∧ tt σ2 H2 fun b H3 =>
        if b = true then te σ2 H3 fun y H4 => ∃ acc, H4 D = some (.lst acc) ∧ acc.length < sizeLine ∧ Nx (upd H4 D (.lst (acc ++ [y]))) else Nx H3) := by
  refine ⟨fun i m H => m = n - i ∧ i ≤ n ∧ Pv i H, ⟨n, by simp, Nat.zero_le _, h0⟩, ?_⟩
  rintro i m H ⟨rfl, hi, p⟩
  by_cases hlt : i < n
  · refine .inr ⟨hlt, Pv (i + 1), fun H' p' => ⟨n - (i + 1), by omega, rfl, hlt, p'⟩, fun x H' y => ?_⟩
    obtain ⟨e, y⟩ := y
    subst e y
    exact hs i _ hlt p
  · have e : i = n := by omega
    subst e
    exact .inl ⟨Nat.le_refl _, hd H p⟩
def blkC (N : List Str) (sc scope : Scope) (own : List (Str × Nat)) : Bool :=
  (match scope.kind with | .function => true | _ => false) && (scope.names.all fun y => decide (scope.names.lookup y.1 = some y.2)) && (own.all fun p => decide (N[p.2]? = some p.1)) &&
    (scope.names.all fun y => match y.2 with
      | .free => (match sc.names.lookup y.1 with | some .cell => true | some .free => true | _ => false)
      | .local => decide (y.1 ∈ own.map (·.1)) || decide (y.1 ∉ N)
      | .cell => decide (y.1 ∈ own.map (·.1)) || decide (y.1 ∉ N)
      | _ => true)
theorem blkOk_by {N : List Str} {sc scope : Scope} {own : List (Str × Nat)} (h : blkC N sc scope own = true) : BlkOk N sc scope own := by
  unfold blkC at h
  simp only [Bool.and_eq_true, List.all_eq_true, decide_eq_true_eq] at h
  obtain ⟨⟨⟨h1, h2⟩, h3⟩, h4⟩ := h
  refine ⟨?_, h2, h3, fun y hy e => ?_, fun y hy e => ?_⟩
  · split at h1
    · assumption
    · cases h1
  · have q := h4 y hy
    simp only [e] at q
    split at q <;> first | exact .inl (by assumption) | exact .inr (by assumption) | cases q
  · have q := h4 y hy
    rcases e with e | e <;> (simp only [e, Bool.or_eq_true, decide_eq_true_eq] at q; exact q)
end L2
namespace L2
open PySem PySem.Spec PyProof.Rows
section
variable {prog : Program} {w : World} {A : Around} {R : Result → Shared → Prop} {s : Shared} {elt t0 i0 t1 i1 : Expr} {ifs0 ifs1 : List Expr} {scope : Scope} {pos : Pos} {it acc : Value} {env : Env}
end
section
variable {X : Cx}
end
end L2
namespace L2
open PySem PySem.Spec PyProof.Rows
section
variable {κ : Type} [DecidableEq κ]
end
section
variable {P : Program} {w : World} {H : Hp} {h : Heap} {a : Addr}
end
section
variable {X : Cx} {pins : List (Addr × Obj)} {σ : St} {H : Hp} {s : Shared} {a : Addr} {y v : V} {u r : Value} {o : Option V} {A : Around} {E : Value → Shared → Prop}
end
section
variable {X : Cx} {pins : List (Addr × Obj)} {σ : St} {H : Hp} {s : Shared} {a : Addr} {kvs : List (Key × V)} {k : Key} {u : Value} {A : Around} {E : Value → Shared → Prop}
end
section
variable {X : Cx} {o i e value : Expr} {pos pos' tpos : Pos} {td ty tv : TE}
end
section
variable {X : Cx} {pos : Pos}
end
section
variable {X : Cx} {pins : List (Addr × Obj)} {σ : St} {H : Hp} {s : Shared} {a : Addr} {y d : V} {u r : Value} {o : Option V} {A : Around} {E : Value → Shared → Prop}
end
section
variable {X : Cx} {o e f : Expr} {apos cpos : Pos} {td ty tx : TE}
end
section
variable {X : Cx} {pins : List (Addr × Obj)} {σ : St} {H : Hp} {s : Shared} {a : Addr} {kvs : List (Key × V)} {A : Around} {E : Value → Shared → Prop}
end
section
variable {X : Cx} {pins : List (Addr × Obj)} {σ : St} {H : Hp} {s : Shared} {a : Addr} {y : V} {u : Value} {A : Around} {E : Value → Shared → Prop}
end
end L2
namespace L2
open PySem PySem.Spec PyProof.Rows
section
variable {prog : Program} {w : World} {A : Around} {E : Value → Shared → Prop}
end
section
variable {X : Cx}
end
end L2
namespace L2
open PySem PySem.Spec PyProof.Rows
theorem boot_reversed5 : bootBuiltins "reversed" = some (.type "reversed") := by decide +kernel
section
variable {X : Cx} {pins : List (Addr × Obj)} {σ : St} {H : Hp} {s : Shared} {h' : Heap}
theorem Inv.turnedL {t' : Nat} {ch : List Addr} (I : Inv X pins σ H s) (k : ∀ b o, b ∉ ch → s.heap.get? b = some o → h'.get? b = some o) (hf : ∀ b ∈ ch, FpOk X pins H b) : Inv X pins σ H { s with heap := h', toks := t' } := by
  have nit : ∀ b u, H b = some u → b ∉ ch := fun b u e z => by
    have q := (hf b z).1
    rw [q] at e; cases e
  refine I.step (g' := s.gens) (d' := s.drawn) (ch := ch) (fun b hb => ⟨(hf b hb).2.2.2.1, (hf b hb).2.1, (hf b hb).2.2.2.2.1, (hf b hb).2.2.2.2.2⟩) (fun b o _ _ hc e _ => k b o hc e) (fun b o _ _ hc e _ => ⟨o.slots, k b o hc e⟩)
    (fun _ _ _ _ n => n) (fun b o hc e => ⟨o, k b o hc e⟩) (fun _ _ e => e) (fun _ _ _ e => e) (fun b ps e => ⟨#[], by rw [e]; simp⟩) (fun m hm => ?_) (fun b u e => ?_) I.bare
  · obtain ⟨o, es, ep, ho, r⟩ := hm
    exact ⟨o, es, ep, k _ o (fun z => (hf _ z).2.1 rfl) ho, r⟩
  · refine (I.hok b u e).stay (fun c v hc q => k c v ?_ q) (fun _ q => q) fun _ _ q => q
    rcases hc with z | z
    · rw [z]; exact nit b u e
    · exact nit c _ z
theorem Inv.turnedNew {t' : Nat} {ch : List Addr} {T : Addr} {ob : HO} (I : Inv X pins σ H s) (k : ∀ b o, b ∉ ch → s.heap.get? b = some o → h'.get? b = some o) (hf : ∀ b ∈ ch, FpOk X pins H b) (hT : s.heap.objs.size ≤ T)
    (new : ObjOk X.prog X.w (upd H T ob) h' T ob) : Inv X pins σ (upd H T ob) { s with heap := h', toks := t' } := by
  have hn : H T = none := I.hok.fresh hT
  have nit : ∀ b u, H b = some u → b ∉ ch := fun b u e z => by
    have q := (hf b z).1
    rw [q] at e; cases e
  refine I.step (g' := s.gens) (d' := s.drawn) (ch := ch) (fun b hb => ⟨(hf b hb).2.2.2.1, (hf b hb).2.1, (hf b hb).2.2.2.2.1, (hf b hb).2.2.2.2.2⟩) (fun b o _ _ hc e _ => k b o hc e) (fun b o _ _ hc e _ => ⟨o.slots, k b o hc e⟩)
    (fun b o _ e n => ?_) (fun b o hc e => ⟨o, k b o hc e⟩) (fun b xs e => ?_) (fun b o u e => ?_) (fun b ps e => ⟨#[], ?_⟩) (fun m hm => ?_) (fun b u e => ?_) I.bare
  · rw [upd_ne (Nat.ne_of_lt (Nat.lt_of_lt_of_le (Heap.lt_size e) hT))]; exact n
  · rw [upd_ne (ne_of_none e hn)]; exact e
  · rw [upd_ne (ne_of_none e hn)]; exact e
  · rw [upd_ne (ne_of_none e hn), e]; simp
  · obtain ⟨o, es, ep, ho, r⟩ := hm
    exact ⟨o, es, ep, k _ o (fun z => (hf _ z).2.1 rfl) ho, r⟩
  · by_cases hb : b = T
    · subst hb
      rw [upd_same] at e
      cases e
      exact new
    · rw [upd_ne hb] at e
      refine (I.hok b u e).stay (fun c v hc q => k c v ?_ q) (fun c q => by rw [upd_ne (ne_of_none q hn)]; exact q) fun c xs q => by rw [upd_ne (ne_of_none q hn)]; exact q
      rcases hc with z | z
      · rw [z]; exact nit b u e
      · exact nit c _ z
end
section
variable {X : Cx}
theorem pi_one {tg : Expr} {pins : List (Addr × Obj)} {σ : St} {H : Hp} {s : Shared} {R : It → Hp → Prop} {J : It} {tn : Nat → Heap → Prop} {tk : Nat} (I : Inv X pins σ H s) (o : Obj)
    (T : Turn X.prog X.w X.K tg J [s.heap.objs.size] s.heap.objs.size tn) (st : tn 0 (s.heap.push o)) (q : R J H) : PIE X pins σ tg R (.ref s.heap.objs.size) { s with heap := s.heap.push o, toks := tk } := by
  refine ⟨s.heap.objs.size, [s.heap.objs.size], tn, J, H, rfl, I.kept fun b ob e => Heap.get?_push_of_some _ e, T, st, fun b hb => ?_, q⟩
  have e : b = s.heap.objs.size := by simpa using hb
  subst e
  exact I.fpOk (Nat.le_refl _) (I.hok.fresh (Nat.le_refl _))
end
def Itc (lo c : Int) (n : Nat) : It := ⟨fun i _ => i < n, fun i H x H' => H' = H ∧ x = .int (lo + (i : Nat) * c), fun i _ => n ≤ i⟩
theorem turn_rangeC {P : Program} {w : World} {K : PySem.W.Frag} {tg : Expr} (it : Addr) (lo c : Int) (n : Nat) : Turn P w K tg (Itc lo c n) [it] it (fun i h => IsRangeIter h it (lo + (i : Nat) * c) ((n : Int) - (i : Nat)) c) where
  mem := by simp
  obj := fun i h st b hb => by
    have e : b = it := by simpa using hb
    subst e
    exact ⟨_, st, fun v z => nomatch z⟩
  keep := fun i h h' st k => k it (by simp) _ st
  item := by
    intro X hP hw hK hc i pins s σ H E I hf st hg
    subst hP hw hK
    obtain ⟨f0, f1, f2, f3, f4, f5⟩ := hf it (by simp)
    have W := Walks.range (prog := X.prog) (w := X.w) (I.ok.hd hc) it lo c n
    refine W.item i s _ _ hg st fun v h' tk hv st' kk => ?_
    obtain ⟨t, rfl⟩ := hv
    have I1 : Inv X pins σ H { s with heap := h', toks := tk } := I.turned (fun b o hb e => kk b o (by simpa using hb) e) f0 f1 f3 f4 f5
    exact ⟨_, rfl, go_of (s := { s with heap := h', toks := tk }) (n := "range_iterator") st' rfl rfl (by decide) ⟨.int (lo + (i : Nat) * c), H, I1, ⟨t, rfl⟩, ⟨rfl, rfl⟩, st', fun b hb => (hf b hb).1⟩⟩
  done := by
    intro X hP hw hK hc i pins s σ H E I hf st hg
    subst hP hw hK
    obtain ⟨f0, f1, f2, f3, f4, f5⟩ := hf it (by simp)
    exact wpAny_pyNext_range_end (I.ok.hd hc) st (by have : n ≤ i := hg; omega) fun h' eb => ⟨rfl, I.turned (t' := s.toks) (fun b o hb e => eb b o hb e) f0 f1 f3 f4 f5⟩
  self := fun A i s Q E st h => wpAny_pyIter_rangeiter st h
def RgC (i j c : Int) (n : Nat) : Prop := c ≠ 0 ∧ c.natAbs < 1073741824 ∧ Builtin.Range.small i j c = true ∧ Builtin.Range.rangeSize i j c = n
theorem RgC.neg {i j : Int} (ha : -(2 ^ 62) ≤ i) (ha' : i < 2 ^ 62) (hb : -(2 ^ 62) ≤ j) (hb' : j < 2 ^ 62) : RgC i j (-1) (i - j).toNat :=
  ⟨by decide, by decide, PySem.W.small_down ha ha' hb hb', PySem.W.rangeSize_downNat i j⟩
def iRng3 (ta : TA) : TI := fun σ H R => ta σ H fun vs H1 => ∃ (i j c : Int) (n : Nat), vs = [.int i, .int j, .int c] ∧ RgC i j c n ∧ R (Itc i c n) H1
section
variable {X : Cx} {tg : Expr}
theorem pi_range3 {a b c : Expr} {ta : TA} {p pos : Pos} (hg : Gl X "range") (hm : X.mg "range" = none) (ha : PA X [a, b, c] ta)
    (hs : starEach [a, b, c] X.env = (false, eval a X.env) :: starEach [b, c] X.env := by rfl) (hpl : (backTo pos (starEach [b, c] X.env)).any (·.1) = false := by rfl) :
    PI X tg (.Call (.Name "range" p) [a, b, c] [] pos) (iRng3 ta) := by
  intro pins s σ H R I h
  refine Call_ (ld_blt I hg hm boot_range (PyProof.Rows.callWith_type1 (thn (ha pos pins s σ H _ I h) fun us s1 ⟨vs, H1, I1, r1, q1⟩ => ?_) hs hpl))
  obtain ⟨i, j, k, n, e, ⟨c0, c1, c2, c3⟩, q⟩ := q1
  subst e
  cases r1 with
  | cons r rr =>
    cases rr with
    | cons r' rr =>
      cases rr with
      | cons r'' rr =>
        cases rr
        obtain ⟨t, rfl⟩ := r
        obtain ⟨t', rfl⟩ := r'
        obtain ⟨t'', rfl⟩ := r''
        refine call_range_3 c0 ?_ (.inl (PyProof.noPylong_small c1))
        refine wpAny_pyIter_range (IsRange.new ..) c2 ?_
        have I2 : Inv X pins σ H1 { s1 with heap := s1.heap.push { cls := .type "range", data := .fields #[.int i t, .int j t', .int k t''] } } := I1.kept (t' := s1.toks) fun b o e => Heap.get?_push_of_some _ e
        refine pi_one (tk := s1.toks) I2 _ (turn_rangeC _ i k n) ?_ q
        have e1 : i + ((0 : Nat) : Int) * k = i := by simp
        have e2 : (n : Int) - ((0 : Nat) : Int) = Builtin.Range.rangeSize i j k := by rw [c3]; simp
        show IsRangeIter _ _ (i + ((0 : Nat) : Int) * k) ((n : Int) - ((0 : Nat) : Int)) k
        rw [e1, e2]
        exact Heap.get?_push_size _ rfl
end
theorem for_rangeC {lo c : Int} {n : Nat} {g : TG} {tb : TS} {D : Ends} {σ : St} {H : Hp} (Pv : Nat → St → Hp → Prop) (h0 : Pv 0 σ H)
    (hs : ∀ i σ H, i < n → Pv i σ H → g (.int (lo + (i : Nat) * c)) σ H fun σ2 H2 => tb { D with nx := Pv (i + 1), ct := Pv (i + 1), bk := D.nx } σ2 H2) (hd : ∀ σ H, Pv n σ H → D.nx σ H) :
    ∃ W : Nat → Nat → St → Hp → Prop, (∃ m, W 0 m σ H) ∧ ∀ i m σ H, W i m σ H →
      ((Itc lo c n).stop i H ∧ D.nx σ H) ∨ ((Itc lo c n).go i H ∧ ∃ N : St → Hp → Prop, (∀ σ' H', N σ' H' → ∃ m', m' < m ∧ W (i + 1) m' σ' H') ∧ ∀ x H', (Itc lo c n).yld i H x H' → g x σ H' fun σ2 H2 => tb { D with nx := N, ct := N, bk := D.nx } σ2 H2) := by
  refine ⟨fun i m σ H => m = n - i ∧ i ≤ n ∧ Pv i σ H, ⟨n, by simp, Nat.zero_le _, h0⟩, ?_⟩
  rintro i m σ H ⟨rfl, hi, p⟩
  by_cases hlt : i < n
  · refine .inr ⟨hlt, Pv (i + 1), fun σ' H' p' => ⟨n - (i + 1), by omega, rfl, hlt, p'⟩, fun x H' y => ?_⟩
    obtain ⟨e, y⟩ := y
    subst e y
    exact hs i σ _ hlt p
  · have e : i = n := by omega
    subst e
    exact .inl ⟨Nat.le_refl _, hd σ H p⟩
def Itv (K : PySem.W.Frag) (a : Addr) (n : Nat) : It :=
  ⟨fun i H => i < n ∧ ∃ (xs : List V) (x : V), SqL K H a xs ∧ xs[n - 1 - i]? = some x, fun i H x H' => H' = H ∧ ∀ xs, SqL K H a xs → xs[n - 1 - i]? = some x, fun i _ => n ≤ i⟩
theorem turn_rev {P : Program} {w : World} {K : PySem.W.Frag} {tg : Expr} (a it : Addr) (n : Nat) : Turn P w K tg (Itv K a n) [it] it (fun i h => i ≤ n ∧ h.IsRevIter it a ((n : Int) - 1 - (i : Nat))) where
  mem := by simp
  obj := fun i h st b hb => by
    have e : b = it := by simpa using hb
    subst e
    obtain ⟨_, o, e, c, d⟩ := st
    exact ⟨o, e, fun v z => by rw [d] at z; cases z⟩
  keep := fun i h h' st k => ⟨st.1, st.2.at fun o e => k it (by simp) o e⟩
  item := by
    intro X hP hw hK hc i pins s σ H E I hf st hg
    subst hP hw hK
    obtain ⟨hin, xs, x, hq, hx⟩ := hg
    obtain ⟨its, rv, p, hz⟩ := I.list hq
    obtain ⟨u, hu, ru⟩ := rv.get hx
    obtain ⟨f0, f1, f2, f3, f4, f5⟩ := hf it (by simp)
    obtain ⟨_, hit⟩ := st
    have e1 : (n : Int) - 1 - ((i : Nat) : Int) = ((n - 1 - i : Nat) : Int) := by omega
    rw [e1] at hit
    refine wpAny_pyNext_rev_item hit p.isList (x := u) (by simpa using hu) fun h' st' sb => ?_
    have e2 : ((n - 1 - i : Nat) : Int) - 1 = (n : Int) - 1 - ((i + 1 : Nat) : Int) := by omega
    rw [e2] at st'
    have I1 : Inv X pins σ H { s with heap := h' } := I.turned (t' := s.toks) (fun b o hb e => (sb.2 b hb).trans e) f0 f1 f3 f4 f5
    obtain ⟨o, e, c, d⟩ := id st'
    exact ⟨u, rfl, go_of (s := { s with heap := h' }) e c d (by decide) ⟨x, H, I1, ru, ⟨rfl, fun ys hy => by rw [I.list_inj hy hq]; exact hx⟩, ⟨hin, st'⟩, fun b hb => (hf b hb).1⟩⟩
  done := by
    intro X hP hw hK hc i pins s σ H E I hf st hg
    subst hP hw hK
    obtain ⟨f0, f1, f2, f3, f4, f5⟩ := hf it (by simp)
    obtain ⟨hin, hit⟩ := st
    have hge : n ≤ i := hg
    have e1 : (n : Int) - 1 - ((i : Nat) : Int) = -1 := by omega
    rw [e1] at hit
    exact wpAny_pyNext_rev_end (I.ok.hd hc) hit fun h' eb => ⟨rfl, I.turned (t' := s.toks) (fun b o hb e => eb b o hb e) f0 f1 f3 f4 f5⟩
  self := fun A i s Q E st h => wpAny_pyIter_revIter st.2 h
def iRev (K : PySem.W.Frag) (ta : TA) : TI := fun σ H R => ta σ H fun vs H1 => ∃ (a : Addr) (xs : List V), vs = [.ref a] ∧ SqL K H1 a xs ∧ R (Itv K a xs.length) H1
section
variable {X : Cx} {tg : Expr}
theorem pi_reversed {e : Expr} {ta : TA} {p pos : Pos} (hg : Gl X "reversed") (hm : X.mg "reversed" = none) (ha : PA X [e] ta) (hs : starEach [e] X.env = [(false, eval e X.env)] := by rfl) : PI X tg (.Call (.Name "reversed" p) [e] [] pos) (iRev X.K ta) := by
  intro pins s σ H R I h
  refine Call_ (ld_blt I hg hm boot_reversed5 (PyProof.Rows.callWith_type1 (thn (ha pos pins s σ H _ I h) fun us s1 ⟨vs, H1, I1, r1, q1⟩ => ?_) hs rfl))
  obtain ⟨a, xs, e, hq, q⟩ := q1
  subst e
  cases r1 with
  | cons r rr =>
    cases rr
    cases r
    obtain ⟨its, rv, p', hz⟩ := I1.list hq
    have hl := rv.length
    have e1 : ((its.toArray.size : Nat) : Int) - 1 = (xs.length : Int) - 1 - ((0 : Nat) : Int) := by simp only [List.size_toArray]; omega
    refine call_reversed_list p'.isList (wpAny_pyIter_revIter (l := a) (i := ((its.toArray.size : Nat) : Int) - 1) ⟨_, Heap.get?_push_size _ rfl, rfl, rfl⟩ ?_)
    refine pi_one (tk := s1.toks) I1 _ (turn_rev a _ xs.length) ⟨Nat.zero_le _, ?_⟩ q
    rw [← e1]
    exact ⟨_, Heap.get?_push_size _ rfl, rfl, rfl⟩
end
section
variable {prog : Program} {w : World} {A : Around} {E : Value → Shared → Prop} {s : Shared}
end
section
variable {X : Cx} {pins : List (Addr × Obj)} {σ : St} {H : Hp} {s : Shared} {d : Addr} {o : Obj}
end
section
variable {P : Program} {w : World} {K : PySem.W.Frag} {tg : Expr} {d : Addr} {o : Obj} {es : Array DictEntry} {ep : Nat}
end
section
variable {X : Cx} {tg e : Expr} {td : TE} {apos cpos : Pos}
end
def Ite (K : PySem.W.Frag) (a : Addr) : It :=
  ⟨fun i H => ∃ (xs : List V) (x : V), SqL K H a xs ∧ xs[i]? = some x, fun i H v H' => ∃ T x, v = .ref T ∧ H T = none ∧ H' = upd H T (.tup [.int (i : Nat), x]) ∧ ∀ xs, SqL K H a xs → xs[i]? = some x, fun i H => ∃ xs : List V, SqL K H a xs ∧ xs.length ≤ i⟩
theorem turn_enum {P : Program} {w : World} {K : PySem.W.Frag} {elts : List Expr} {kk : Nat} {tpos : Pos} (a e it : Addr) :
    Turn P w K (.Tuple elts kk tpos) (Ite K a) [e, it] e (fun i h => (∃ old, IsEnum h e it ((i : Nat) : Int) old) ∧ h.IsListIter it a i ∧ e ≠ it) where
  mem := by simp
  obj := fun i h st b hb => by
    obtain ⟨⟨old, he⟩, ⟨o, ho, hc, hd⟩, _⟩ := st
    have e' : b = e ∨ b = it := by simpa using hb
    rcases e' with z | z
    · rw [z]; exact ⟨_, he, fun v q => nomatch q⟩
    · rw [z]; exact ⟨o, ho, fun v q => by rw [hd] at q; cases q⟩
  keep := fun i h h' st k => let ⟨⟨old, he⟩, hi, hne⟩ := st; ⟨⟨old, k e (by simp) _ he⟩, hi.at fun o q => k it (by simp) o q, hne⟩
  item := by
    intro X hP hw hK hc i pins s σ H E I hf st hg
    subst hP hw hK
    obtain ⟨⟨old, he⟩, hit, hne⟩ := st
    obtain ⟨xs, x, hq, hx⟩ := hg
    obtain ⟨its, rv, p, hz⟩ := I.list hq
    obtain ⟨u, hu, ru⟩ := rv.get hx
    have hel : e < s.heap.objs.size := Heap.lt_size he
    have hil : it < s.heap.objs.size := by obtain ⟨_, q, _⟩ := hit; exact Heap.lt_size q
    refine wpAny_pyNext_enum_item he hit p.isList (x := u) (by simpa using hu) hne fun h' ho hit' hT hsz hk => ?_
    refine ⟨_, rfl, wpAny_letOwnedTupleGo_enum (s := { s with heap := h', toks := s.toks + 1 }) ho fun h'' he' sb => ?_⟩
    have hT2 : h''.get? s.heap.objs.size = some { cls := .type "tuple", data := .seq #[.int i s.toks, u] } := (sb.2 _ (Nat.ne_of_gt hel)).trans hT
    have new : ObjOk X.prog X.w (upd H s.heap.objs.size (.tup [.int (i : Nat), x])) h'' s.heap.objs.size (.tup [.int (i : Nat), x]) :=
      ⟨by show 2 ≤ sizeLine; decide, [.int i s.toks, u], .cons ⟨_, rfl⟩ (.cons ru .nil), ⟨_, hT2, rfl, _, rfl⟩⟩
    have I1 : Inv X pins σ (upd H s.heap.objs.size (.tup [.int (i : Nat), x])) { s with heap := h'', toks := s.toks + 1 } :=
      I.turnedNew (ch := [e, it]) (fun b ob hb q => (sb.2 b (fun z => hb (by simp [z]))).trans (hk b ob (fun z => hb (by simp [z])) (fun z => hb (by simp [z])) q)) hf (Nat.le_refl _) new
    refine ⟨.ref s.heap.objs.size, _, I1, rfl, ⟨_, x, rfl, I.hok.fresh (Nat.le_refl _), rfl, fun ys hy => by rw [I.list_inj hy hq]; exact hx⟩, ⟨⟨u, ?_⟩, hit'.at fun o q => (sb.2 it (Ne.symm hne)).trans q, hne⟩, fun b hb => ?_⟩
    · have e1 : ((i + 1 : Nat) : Int) = (i : Int) + 1 := by omega
      rw [e1]; exact he'
    · have hb' : b < s.heap.objs.size := by
        have e' : b = e ∨ b = it := by simpa using hb
        rcases e' with z | z
        · rw [z]; exact hel
        · rw [z]; exact hil
      rw [upd_ne (Nat.ne_of_lt hb')]
      exact (hf b hb).1
  done := by
    intro X hP hw hK hc i pins s σ H E I hf st hg
    subst hP hw hK
    obtain ⟨⟨old, he⟩, hit, hne⟩ := st
    obtain ⟨xs, hq, hx⟩ := hg
    obtain ⟨its, rv, p, hz⟩ := I.list hq
    obtain ⟨f0, f1, f2, f3, f4, f5⟩ := hf it (by simp)
    have hl := rv.length
    exact wpAny_pyNext_enum_end (I.ok.hd hc) he hit p.isList (by simp; omega) fun h' eb => ⟨rfl, I.turned (t' := s.toks) (fun b o hb q => eb b o hb q) f0 f1 f3 f4 f5⟩
  self := fun A i s Q E st h => let ⟨⟨_, he⟩, _⟩ := st; wpAny_pyIter_enum he h
def iEnum (K : PySem.W.Frag) (ta : TA) : TI := fun σ H R => ta σ H fun vs H1 => ∃ a xs, vs = [.ref a] ∧ SqL K H1 a xs ∧ R (Ite K a) H1
theorem pi_enum {X : Cx} {e : Expr} {ta : TA} {p pos tpos : Pos} {elts : List Expr} {kk : Nat} (hg : Gl X "enumerate") (hm : X.mg "enumerate" = none) (ha : PA X [e] ta) (hs : starEach [e] X.env = [(false, eval e X.env)] := by rfl) :
    PI X (.Tuple elts kk tpos) (.Call (.Name "enumerate" p) [e] [] pos) (iEnum X.K ta) := by
  intro pins s σ H R I h
  refine Call_ (ld_blt I hg hm boot_enumerate (PyProof.Rows.callWith_type1 (thn (ha pos pins s σ H _ I h) fun us s1 ⟨vs, H1, I1, r1, q1⟩ => ?_) hs rfl))
  obtain ⟨a, xs, ex, hq, q⟩ := q1
  subst ex
  cases r1 with
  | cons r rr =>
    cases rr
    cases r
    obtain ⟨its, rv, p', hz⟩ := I1.list hq
    refine call_enumerate_list p'.isList fun h' he hit hsz hk => wpAny_pyIter_enum he ?_
    have I2 : Inv X pins σ H1 { s1 with heap := h' } := I1.kept (t' := s1.toks) hk
    refine ⟨s1.heap.objs.size + 1, [s1.heap.objs.size + 1, s1.heap.objs.size], _, _, H1, rfl, I2, turn_enum a (s1.heap.objs.size + 1) s1.heap.objs.size, ⟨⟨.none, he⟩, hit, Nat.succ_ne_self _⟩, fun b hb => ?_, q⟩
    have e' : b = s1.heap.objs.size + 1 ∨ b = s1.heap.objs.size := by simpa using hb
    have hle : s1.heap.objs.size ≤ b := by
      rcases e' with z | z
      · rw [z]; exact Nat.le_add_right _ _
      · rw [z]; exact Nat.le_refl _
    exact I1.fpOk hle (I1.hok.fresh hle)
theorem boot_zip5 : bootBuiltins "zip" = some (.type "zip") := by decide +kernel
def Itz (K : PySem.W.Frag) (a b : Addr) : It :=
  ⟨fun i H => ∃ (xs ys : List V) (x y : V), SqL K H a xs ∧ SqL K H b ys ∧ xs[i]? = some x ∧ ys[i]? = some y,
    fun i H v H' => ∃ T x y, v = .ref T ∧ H T = none ∧ H' = upd H T (.tup [x, y]) ∧ (∀ xs, SqL K H a xs → xs[i]? = some x) ∧ ∀ ys, SqL K H b ys → ys[i]? = some y,
    fun i H => ∃ xs ys : List V, SqL K H a xs ∧ SqL K H b ys ∧ (xs.length ≤ i ∨ ys.length ≤ i)⟩
theorem turn_zip {P : Program} {w : World} {K : PySem.W.Frag} {elts : List Expr} {kk : Nat} {tpos : Pos} {a b z TI TO i1 i2 : Addr} (D : ZipApart z TI TO i1 i2 a b) :
    Turn P w K (.Tuple elts kk tpos) (Itz K a b) [z, TI, TO, i1, i2] z (fun i h => IsZip h z TI TO .none ∧ IsPair h TI (.ref i1) (.ref i2) ∧ (∃ x y, IsPair h TO x y) ∧ h.IsListIter i1 a i ∧ h.IsListIter i2 b i) where
  mem := by simp
  obj := fun i h st c hc => by
    obtain ⟨hz, hTI, ⟨x, y, hTO⟩, ⟨o1, e1, _, d1⟩, ⟨o2, e2, _, d2⟩⟩ := st
    have e' : c = z ∨ c = TI ∨ c = TO ∨ c = i1 ∨ c = i2 := by simpa using hc
    rcases e' with q | q | q | q | q
    · rw [q]; exact ⟨_, hz, fun v q => nomatch q⟩
    · rw [q]; exact ⟨_, hTI, fun v q => nomatch q⟩
    · rw [q]; exact ⟨_, hTO, fun v q => nomatch q⟩
    · rw [q]; exact ⟨o1, e1, fun v q => by rw [d1] at q; cases q⟩
    · rw [q]; exact ⟨o2, e2, fun v q => by rw [d2] at q; cases q⟩
  keep := fun i h h' st k => by
    obtain ⟨hz, hTI, ⟨x, y, hTO⟩, h1, h2⟩ := st
    exact ⟨k z (by simp) _ hz, k TI (by simp) _ hTI, ⟨x, y, k TO (by simp) _ hTO⟩, h1.at fun o q => k i1 (by simp) o q, h2.at fun o q => k i2 (by simp) o q⟩
  item := by
    intro X hP hw hK hc i pins s σ H E I hf st hg
    subst hP hw hK
    obtain ⟨hz, hTI, ⟨x0, y0, hTO⟩, h1, h2⟩ := st
    obtain ⟨xs, ys, x, y, hqx, hqy, hx, hy⟩ := hg
    obtain ⟨its, rv, p, _⟩ := I.list hqx
    obtain ⟨its2, rv2, p2, _⟩ := I.list hqy
    obtain ⟨u, hu, ru⟩ := rv.get hx
    obtain ⟨u2, hu2, ru2⟩ := rv2.get hy
    have hzl : z < s.heap.objs.size := Heap.lt_size hz
    refine wpAny_pyNext_zip_item D hz hTI hTO h1 h2 p.isList p2.isList (x := u) (y := u2) (by simpa using hu) (by simpa using hu2) fun h' z' TO' h1' h2' hT hsz hk => ?_
    refine ⟨_, rfl, wpAny_letOwnedTupleGo_zip (s := { s with heap := h' }) z' fun h'' z'' sb => ?_⟩
    have hT2 : h''.get? s.heap.objs.size = some { cls := .type "tuple", data := .seq #[u, u2] } := (sb.2 _ (Nat.ne_of_gt hzl)).trans hT
    have new : ObjOk X.prog X.w (upd H s.heap.objs.size (.tup [x, y])) h'' s.heap.objs.size (.tup [x, y]) :=
      ⟨by show 2 ≤ sizeLine; decide, [u, u2], .cons ru (.cons ru2 .nil), ⟨_, hT2, rfl, _, rfl⟩⟩
    have I1 : Inv X pins σ (upd H s.heap.objs.size (.tup [x, y])) { s with heap := h'' } :=
      I.turnedNew (t' := s.toks) (ch := [z, TI, TO, i1, i2]) (fun c o hb q => (sb.2 c (fun q' => hb (by simp [q']))).trans (hk c o (fun q' => hb (by simp [q'])) (fun q' => hb (by simp [q'])) (fun q' => hb (by simp [q'])) (fun q' => hb (by simp [q'])) q)) hf (Nat.le_refl _) new
    refine ⟨.ref s.heap.objs.size, _, I1, rfl, ⟨_, x, y, rfl, I.hok.fresh (Nat.le_refl _), rfl, fun l hl => by rw [I.list_inj hl hqx]; exact hx, fun l hl => by rw [I.list_inj hl hqy]; exact hy⟩, ⟨z'', ?_, ⟨u, u2, ?_⟩, ?_, ?_⟩, fun c hcm => ?_⟩
    · exact (sb.2 _ D.TIz).trans (hk _ _ D.TIz D.TITO D.TIi1 D.TIi2 hTI)
    · exact (sb.2 _ D.TOz).trans TO'
    · exact h1'.at fun o q => (sb.2 _ D.i1z).trans q
    · exact h2'.at fun o q => (sb.2 _ D.i2z).trans q
    · have hlt : c < s.heap.objs.size := by
        have e' : c = z ∨ c = TI ∨ c = TO ∨ c = i1 ∨ c = i2 := by simpa using hcm
        rcases e' with q | q | q | q | q
        · rw [q]; exact hzl
        · rw [q]; exact Heap.lt_size hTI
        · rw [q]; exact Heap.lt_size hTO
        · rw [q]; obtain ⟨_, e1, _⟩ := h1; exact Heap.lt_size e1
        · rw [q]; obtain ⟨_, e2, _⟩ := h2; exact Heap.lt_size e2
      rw [upd_ne (Nat.ne_of_lt hlt)]
      exact (hf c hcm).1
  done := by
    intro X hP hw hK hc i pins s σ H E I hf st hg
    subst hP hw hK
    obtain ⟨hz, hTI, ⟨x0, y0, hTO⟩, h1, h2⟩ := st
    obtain ⟨xs, ys, hqx, hqy, hend⟩ := hg
    obtain ⟨its, rv, p, _⟩ := I.list hqx
    obtain ⟨its2, rv2, p2, _⟩ := I.list hqy
    have l1 := rv.length
    have l2 := rv2.length
    have he : its.toArray[i]? = none ∨ its2.toArray[i]? = none := by
      rcases hend with q | q
      · exact .inl (by simp; omega)
      · exact .inr (by simp; omega)
    exact wpAny_pyNext_zip_end (I.ok.hd hc) D hz hTI hTO h1 h2 p.isList p2.isList he fun h' hk => ⟨rfl, I.turnedL (t' := s.toks) (ch := [z, TI, TO, i1, i2]) (fun c o hb q =>
      hk c o (fun q' => hb (by simp [q'])) (fun q' => hb (by simp [q'])) (fun q' => hb (by simp [q'])) (fun q' => hb (by simp [q'])) q) hf⟩
  self := fun A i s Q E st h => wpAny_pyIter_zip st.1 h
def iZip (K : PySem.W.Frag) (ta : TA) : TI := fun σ H R => ta σ H fun vs H1 => ∃ a b xs ys, vs = [.ref a, .ref b] ∧ SqL K H1 a xs ∧ SqL K H1 b ys ∧ R (Itz K a b) H1
theorem pi_zip {X : Cx} {e e2 : Expr} {ta : TA} {p pos tpos : Pos} {elts : List Expr} {kk : Nat} (hg : Gl X "zip") (hm : X.mg "zip" = none) (ha : PA X [e, e2] ta)
    (hs : starEach [e, e2] X.env = (false, eval e X.env) :: starEach [e2] X.env := by rfl) (hpl : (backTo pos (starEach [e2] X.env)).any (·.1) = false := by rfl) :
    PI X (.Tuple elts kk tpos) (.Call (.Name "zip" p) [e, e2] [] pos) (iZip X.K ta) := by
  intro pins s σ H R I h
  refine Call_ (ld_blt I hg hm boot_zip5 (PyProof.Rows.callWith_type1 (thn (ha pos pins s σ H _ I h) fun us s1 ⟨vs, H1, I1, r1, q1⟩ => ?_) hs hpl))
  obtain ⟨a, b, xs, ys, ex, hqx, hqy, q⟩ := q1
  subst ex
  cases r1 with
  | cons r rr =>
    cases rr with
    | cons r' rr =>
      cases rr
      cases r
      cases r'
      obtain ⟨its, rv, p1, _⟩ := I1.list hqx
      obtain ⟨its2, rv2, p2, _⟩ := I1.list hqy
      have la : a < s1.heap.objs.size := p1.lt
      have lb : b < s1.heap.objs.size := p2.lt
      refine call_zip_2 p1.isList p2.isList fun h' hz hTI hTO h1 h2 hsz hk => wpAny_pyIter_zip hz ?_
      have I2 : Inv X pins σ H1 { s1 with heap := h' } := I1.kept (t' := s1.toks) hk
      refine ⟨s1.heap.objs.size + 4, [s1.heap.objs.size + 4, s1.heap.objs.size + 2, s1.heap.objs.size + 3, s1.heap.objs.size, s1.heap.objs.size + 1], _, _, H1, rfl, I2, turn_zip (PySem.W.ktu_apart s1.heap.objs.size a b la lb), ⟨hz, hTI, ⟨_, _, hTO⟩, h1, h2⟩, fun c hcm => ?_, q⟩
      have e' : c = s1.heap.objs.size + 4 ∨ c = s1.heap.objs.size + 2 ∨ c = s1.heap.objs.size + 3 ∨ c = s1.heap.objs.size ∨ c = s1.heap.objs.size + 1 := by simpa using hcm
      have hle : s1.heap.objs.size ≤ c := by
        rcases e' with z | z | z | z | z
        · rw [z]; exact Nat.le_add_right _ _
        · rw [z]; exact Nat.le_add_right _ _
        · rw [z]; exact Nat.le_add_right _ _
        · rw [z]; exact Nat.le_refl _
        · rw [z]; exact Nat.le_add_right _ _
      exact I1.fpOk hle (I1.hok.fresh hle)
end L2
section
namespace Bits
open PySem PyProof.Rows
theorem bitAnd_mask {x : Int} (k : Nat) (hx : 0 ≤ x) : Builtin.bitAnd x (2 ^ k - 1) = x % 2 ^ k := by
  obtain ⟨n, rfl⟩ := Int.eq_ofNat_of_zero_le hx
  have hp : 0 < 2 ^ k := Nat.two_pow_pos k
  rw [two_pow_cast]
  have e : ((2 ^ k : Nat) : Int) - 1 = ((2 ^ k - 1 : Nat) : Int) := by
    generalize (2 : Nat) ^ k = m at hp
    omega
  rw [e, bitAnd_pp (by omega) (by omega), Int.toNat_natCast, Int.toNat_natCast, Nat.and_two_pow_sub_one_eq_mod]
  first
    | rfl
    | exact Int.natCast_emod _ _
    | simp
end Bits
end
section
namespace TL
open PySem PySem.Builtin PySem.Builtin.Str PySem.StrLaws
end TL
end
namespace L2
open PySem PySem.Spec PyProof.Rows
section
variable {X : Cx} {pins : List (Addr × Obj)} {σ : St} {H : Hp} {s : Shared} {Q : VK}
end
section
variable {X : Cx}
end
section
variable {X : Cx} {o e : Expr} {to te : TE}
end
end L2
namespace L2
open PySem PySem.Spec PyProof.Rows
section
variable {X : Cx}
end
end L2
namespace Att
open PySem PySem.W PySem.Calls PyProof.Rows
section
variable {prog : Program} {w : World} {A : Around} {E : Value → Shared → Prop} {s : Shared} {K : Frag}
end
end Att
namespace L2
open PySem PySem.Spec PyProof.Rows
end L2
namespace L2
open PySem PySem.Spec PyProof.Rows
end L2
/- THE LAST THEOREM (shape; LID, My.* are yours):
   My.Adr: a structure of the addresses that your layer names (classes, functions); My.Txt K t: a structure (Prop) of the equations over K;
   My.txt_mk : {K} {implicit addresses ..} (e1 : nsIn K mainGlobals "law" = some (some (.ref f))) (e2 : K.lookup f = some ⟨oc, od, .func (fnOf "law" "law" params body scope dV kV doc pm an cdv ct), sl⟩) (e3 : codeIn K cdv "law" = true) .. : ∃ t, My.Txt K t
set_option maxRecDepth 100000 in
set_option maxHeartbeats 0 in
theorem PySem.Challenge.cw_LID_holds : PySem.Challenge.rw_LID.Holds := by
  w_on; o_law; k_head; (case hw => w_witness2)
  k_fill
  refine L2.walk_of (l := PySem.Challenge.rw_LID) (n := 63) (k := 40) (x := "script") (CX := fun w => ..) (sp := fun _ => My.sp_law) rfl (by decide) rfl ⟨rfl, by decide, by decide⟩ (fun w h Y => PySem.W.kIn_of Y) ?F ?S ?C
  case F =>
    intro w mg fa h KX G hmg
    have T : ∃ t, My.Txt (L2.KOf KX) t := by
      dsimp only [L2.KOf]                          -- K must stand as «<heap const> w.params» for k_is
      refine' My.txt_mk ?e1 ?e2 ?e3 ..
      (case e1 => PySem.W.k_is)                    -- in the order: a name -> its address -> its object -> its parts
      (case e2 => PySem.W.k_is)
      ..
    obtain ⟨t, T⟩ := T
    have e0 := hmg.symm.trans (PySem.W.mg_of KX G T.law)
    cases e0                                       -- fa is the law's own address
    exact ⟨_, fun s u => .of_eq rfl, fun base kb nb => My.law_fn T kb nb⟩     -- if «.of_eq rfl» comes too early: refine' ⟨_, ?b, fun base kb nb => My.law_fn T kb nb⟩; exact fun s u => .of_eq rfl
  case S => exact fun w H a ns hl hO hS => ..
  case C => exact ..
(the tactic k_is has no namespace: write k_is) -/
namespace L2
open PySem PySem.Spec PyProof.Rows
def inClass (s : Stmt) (j : Nat) : Stmt := match s with
  | .ClassDef _ _ _ body _ _ _ _ _ _ _ => body.getD j (.Pass ⟨0, 0, 0, 0⟩)
  | _ => .Pass ⟨0, 0, 0, 0⟩
def defArgs (s : Stmt) : Arguments := match s with
  | .FunctionDef _ a _ _ _ _ _ _ _ _ => a
  | _ => { posonlyargs := [], args := [], vararg := none, kwonlyargs := [], kw_defaults := [], kwarg := none, defaults := [] }
def defBody (s : Stmt) : List Stmt := match s with
  | .FunctionDef _ _ b _ _ _ _ _ _ _ => b
  | _ => []
def defScope (s : Stmt) : Scope := match s with
  | .FunctionDef _ _ _ _ _ _ sc _ _ _ => sc
  | _ => { kind := .function, names := [], isGenerator := false, isCoroutine := false }
abbrev CX0 : CXT := fun _ _ _ _ _ _ => False
abbrev E0 : XK := fun _ _ _ => False
theorem pass0 {X : Cx} : Passes CX0 X E0 := fun _ _ _ _ _ _ _ h => h.elim
structure Fun (K : PySem.W.Frag) (x qual : Str) (st : Stmt) (f : Addr) (fd : FuncData) : Prop where
  ex : ∃ (oc : Value) (od : Option Addr) (kV doc pm : Value) (an : Option Addr) (cdv ct : Value) (osl : Array (Option Value)),
    fd = PySem.W.fnOf x qual (defArgs st) (defBody st) (defScope st) .none kV doc pm an cdv ct ∧ K.lookup f = some ⟨oc, od, .func fd, osl⟩ ∧ PySem.W.codeIn K cdv qual = true
  kp : PySem.W.keepIn K (.ref f) = true
section
variable {P : Program} {w : World} {K : PySem.W.Frag} {mg : Str → Option Value} {base : Heap}
theorem Fun.ok {x qual : Str} {st : Stmt} {f : Addr} {fd : FuncData} {N ps : List Str} {k : Nat} {sp : Sp} (F : Fun K x qual st f fd) (S : FnScope N ps (defScope st)) (len : ∀ vs H Q E, sp vs H Q E → vs.length = ps.length)
    (hbody : ∀ (cdv : Value) (A : Around) (outer : List Env) (s : Shared) (H : Hp) (vs : List V) (Q : VK) (E : XK), Room k (A.deeper (envOfC qual (defScope st) s.heap.objs.size f cdv)) → sp vs H Q E →
      ∃ t, PSs (cxOf CX0 P w K mg base N qual (defScope st) f cdv A outer s H E).nox (defBody st) t ∧ t { nx := fun _ H' => Q .non H', rt := Q } (start N vs) H) : FnOk P w K mg base CX0 (k + 1) f fd ps sp := by
  obtain ⟨oc, od, kV, doc, pm, an, cdv, ct, osl, rfl, lk, hcd⟩ := F.ex
  refine fn_of lk hcd S len fun A outer s H vs Q E hr hsp => ?_
  obtain ⟨t, h, q⟩ := hbody cdv A outer s H vs Q E hr hsp
  exact ⟨t, h.nox, q⟩
theorem Fun.binds {x qual : Str} {st : Stmt} {f : Addr} {fd : FuncData} {ps : List Str} (F : Fun K x qual st f fd)
    (h : ∀ (kV doc pm : Value) (an : Option Addr) (cdv ct : Value) (us : List Value), us.length = ps.length → bindArgs (PySem.W.fnOf x qual (defArgs st) (defBody st) (defScope st) .none kV doc pm an cdv ct) ⟨us, []⟩ = pure (ps.zip us)) : Binds K fd ps [] := by
  obtain ⟨oc, od, kV, doc, pm, an, cdv, ct, osl, rfl, lk, hcd⟩ := F.ex
  exact .all (h kV doc pm an cdv ct)
theorem fun_mk {x qual : Str} {st : Stmt} {f : Addr} {oc : Value} {od an : Option Addr} {osl : Array (Option Value)} {kV doc pm cdv ct : Value} (l : K.lookup f = some ⟨oc, od, .func (PySem.W.fnOf x qual (defArgs st) (defBody st) (defScope st) .none kV doc pm an cdv ct), osl⟩)
    (c : PySem.W.codeIn K cdv qual = true) (k : PySem.W.keepIn K (.ref f) = true) : Fun K x qual st f (PySem.W.fnOf x qual (defArgs st) (defBody st) (defScope st) .none kV doc pm an cdv ct) := ⟨⟨oc, od, kV, doc, pm, an, cdv, ct, osl, rfl, l, c⟩, k⟩
end
section
variable {X : Cx}
theorem pv (i : Nat) {x : Str} {pos : Pos} (hN : X.N[i]? = some x := by rfl) (hv : Vis X.env.scope x := by first | exact Or.inl rfl | exact Or.inr (Or.inl rfl) | exact Or.inr (Or.inr rfl)) (hd : (x == ("__debug__" : Str)) = false := by decide)
    (hcd : (x == ("__classdict__" : Str)) = false := by decide) : PE X (.Name x pos) (tVar i) := pe_var hN hv hd hcd
end
theorem iteT {A B : Prop} (h : A) : if true = true then A else B := by
  rw [if_pos rfl]
  exact h
def Same (H H' : Hp) : Prop := ∀ b o, H b = some o → H' b = some o
theorem Same.refl (H : Hp) : Same H H := fun _ _ h => h
theorem Same.trans {H H1 H2 : Hp} (a : Same H H1) (b : Same H1 H2) : Same H H2 := fun c o h => b c o (a c o h)
theorem Same.free {H H' : Hp} (e : Same H H') {l : Addr} (h : H' l = Option.none) : H l = Option.none := by
  cases q : H l with
  | none => rfl
  | some o =>
    rw [e l o q] at h
    cases h
theorem Same.seq {K : PySem.W.Frag} {H H' : Hp} {a : Addr} {xs : List V} (e : Same H H') (h : SqL K H a xs) : SqL K H' a xs := by
  rcases h with (h | ⟨o, h⟩) | h
  · exact .inl (.inl (e _ _ h))
  · exact .inl (.inr ⟨o, e _ _ h⟩)
  · exact .inr h
section
variable {κ : Type} [DecidableEq κ]
theorem nd_snoc : ∀ {l : List κ} {k : κ}, l.Nodup → ¬ k ∈ l → (l ++ [k]).Nodup
  | [], k, _, _ => by simp
  | a :: r, k, h, hk => by
    obtain ⟨h1, h2⟩ := List.nodup_cons.mp h
    show (a :: (r ++ [k])).Nodup
    refine List.nodup_cons.mpr ⟨fun m => ?_, nd_snoc h2 fun m => hk (List.mem_cons.mpr (Or.inr m))⟩
    rcases List.mem_append.mp m with q | q
    · exact h1 q
    · exact hk (List.mem_cons.mpr (Or.inl (List.mem_singleton.mp q).symm))
end
theorem at_of {xs : List V} {z : Int} {j : Nat} {v : V} (e : z = (j : Int)) (h : xs[j]? = some v) : atI xs z = some v := by
  rw [e]
  exact atI_nat h
theorem nd_ix {α : Type} {l : List α} (hN : l.Nodup) {i j : Nat} {x : α} (a : l[i]? = some x) (b : l[j]? = some x) : i = j := by
  obtain ⟨h1, e1⟩ := List.getElem?_eq_some_iff.mp a
  obtain ⟨h2, e2⟩ := List.getElem?_eq_some_iff.mp b
  exact (List.getElem_inj hN).mp (e1.trans e2.symm)
theorem Same.made {H H1 : Hp} {x dx C : Addr} (nx : H x = Option.none) (nd : H dx = Option.none) (k : ∀ b o, (upd (upd H dx (.own x)) x (.ins C dx [])) b = some o → b ≠ x → H1 b = some o) : Same H H1 := fun b o e =>
  k b o (by rw [upd_ne (ne_of_none e nx), upd_ne (ne_of_none e nd)]; exact e) (ne_of_none e nx)
end L2
end
section
namespace L2
open PySem PySem.Spec PyProof.Rows
section
variable {X : Cx}
theorem mt_bits : MtR X "int.bit_length" (fun x xs H Q => ∃ a : Int, x = .int a ∧ xs = [] ∧ Q (.int ((Builtin.Int.intBits a : Nat) : Int)) H) := by
  intro pins s σ H x xs v us Q I rx rv h
  obtain ⟨a, rfl, rfl, q⟩ := h
  obtain ⟨t, rfl⟩ := rx
  cases rv
  exact call_gives F.slot_int_bit_length (typeIs_int s a t) F.entry_int_bit_length (F.args_int_bit_length_1 _) (AutoIntG2.int_bit_length_int_0 a t) ⟨.int _, H, I.tok _, ⟨_, rfl⟩, q⟩
variable {e : Expr} {te : TE} {lo st : Option Expr} {tl ts : TO} {pos p2 : Pos}
theorem pe_bits {o : Expr} {to : TE} {apos cpos : Pos} (ho : PE X o to) (hbase : attributeBase o "bit_length" X.env (eval o X.env) = eval o X.env := by rfl) (hline : (apos.endLine == cpos.line) = true := by rfl) :
    PE X (.Call (.Attribute o "bit_length" apos) [] [] cpos) (tBM0 X.K "int" (fun x xs H Q => ∃ a : Int, x = .int a ∧ xs = [] ∧ Q (.int ((Builtin.Int.intBits a : Nat) : Int)) H) to) :=
  pe_bm0 F.plainAttrs_int F.slot_int_bit_length F.type_int_bit_length mt_bits ho hbase hline
def stepV {α : Type} (xs : List α) (a k : Nat) : List α := (List.range ((xs.length - a + (k - 1)) / k)).filterMap fun i => xs[a + k * i]?
theorem stepV_ix {α : Type} (xs : List α) {a k i : Nat} (hk : 0 < k) (h : i < (xs.length - a + (k - 1)) / k) : a + k * i < xs.length := by
  have h1 : k * (i + 1) ≤ k * ((xs.length - a + (k - 1)) / k) := Nat.mul_le_mul_left k h
  have h2 : k * ((xs.length - a + (k - 1)) / k) ≤ xs.length - a + (k - 1) := Nat.mul_div_le _ _
  have h3 : k * (i + 1) = k * i + k := Nat.mul_succ k i
  omega
theorem filterMap_all {α β : Type} (f : α → Option β) (g : α → β) : ∀ (l : List α), (∀ x ∈ l, f x = some (g x)) → l.filterMap f = l.map g
  | [], _ => rfl
  | x :: l, h => by
    rw [List.filterMap_cons, h x (by simp), filterMap_all f g l (fun y hy => h y (by simp [hy]))]
    rfl
theorem stepV_eq {α : Type} [Inhabited α] (xs : List α) {a k : Nat} (hk : 0 < k) : stepV xs a k = (List.range ((xs.length - a + (k - 1)) / k)).map fun i => xs.getD (a + k * i) default := by
  unfold stepV
  apply filterMap_all
  intro i hi
  have hl := stepV_ix xs hk (List.mem_range.mp hi)
  rw [List.getElem?_eq_getElem hl]
  simp [List.getD, List.getElem?_eq_getElem hl]
theorem stepV_length {α : Type} [Inhabited α] (xs : List α) {a k : Nat} (hk : 0 < k) : (stepV xs a k).length = (xs.length - a + (k - 1)) / k := by
  rw [stepV_eq xs hk, List.length_map, List.length_range]
theorem stepV_get {α : Type} [Inhabited α] (xs : List α) {a k i : Nat} (hk : 0 < k) (h : i < (xs.length - a + (k - 1)) / k) : (stepV xs a k)[i]? = xs[a + k * i]? := by
  have hl := stepV_ix xs hk h
  rw [stepV_eq xs hk, List.getElem?_map, List.getElem?_range h]
  simp [List.getElem?_eq_getElem hl]
theorem stepV_map {α β : Type} (f : α → β) (xs : List α) (a k : Nat) : stepV (xs.map f) a k = (stepV xs a k).map f := by
  unfold stepV
  rw [List.length_map, List.map_filterMap]
  congr 1
  funext i
  rw [List.getElem?_map]
theorem Vals.step {xs : List V} {us : List Value} (r : Vals xs us) (a k : Nat) : Vals (stepV xs a k) (stepV us a k) := by
  unfold stepV
  rw [r.length]
  generalize List.range ((us.length - a + (k - 1)) / k) = l
  induction l with
  | nil => exact .nil
  | cons i l ih =>
    rw [List.filterMap_cons, List.filterMap_cons]
    cases e : xs[a + k * i]? with
    | none =>
      have e2 : us[a + k * i]? = none := by
        rw [List.getElem?_eq_none_iff] at e ⊢
        rw [← r.length]; exact e
      rw [e2]; exact ih
    | some x =>
      obtain ⟨u, hu, ru⟩ := r.get e
      rw [hu]
      exact .cons ru ih
theorem slicePick_step (its : List Value) (a k : Nat) (hk : 0 < k) : slicePick its.toArray (some (a : Int)) none (some (k : Int)) = (stepV its a k).toArray := by
  unfold slicePick
  have hk' : (k : Int) > 0 := by omega
  have hb : sliceBounds (some (a : Int)) none (some (k : Int)) its.toArray.size = (((min a its.length : Nat) : Int), (its.length : Int), (k : Int)) := by
    simp only [sliceBounds, Option.getD_some, if_pos hk', List.size_toArray]
    have h0 : ¬ ((a : Int) < 0) := by omega
    simp only [if_neg h0]
    refine Prod.ext ?_ rfl
    show max 0 (min (a : Int) (its.length : Int)) = _
    omega
  rw [hb]
  show (List.filterMap _ (sliceRange ((min a its.length : Nat) : Int) (its.length : Int) (k : Int))).toArray = _
  congr 1
  unfold sliceRange stepV
  simp only [if_pos hk']
  by_cases h : a < its.length
  · have e1 : min a its.length = a := by omega
    rw [e1, if_pos (by omega)]
    have e2 : (((its.length : Int) - (a : Int) + (k : Int) - 1) / (k : Int)).toNat = (its.length - a + (k - 1)) / k := by
      have e3 : ((its.length : Int) - (a : Int) + (k : Int) - 1) = ((its.length - a + (k - 1) : Nat) : Int) := by omega
      rw [e3, ← Int.natCast_ediv, Int.toNat_natCast]
    rw [e2, List.filterMap_map]
    congr 1
    funext i
    have e4 : ((a : Int) + (k : Int) * (i : Int)).toNat = a + k * i := by
      have : ((k * i : Nat) : Int) = (k : Int) * (i : Int) := Int.natCast_mul k i
      omega
    simp only [Function.comp, e4]
    simp
  · have e1 : min a its.length = its.length := by omega
    rw [e1, if_neg (by omega)]
    have e2 : its.length - a = 0 := by omega
    rw [e2, Nat.zero_add, Nat.div_eq_of_lt (by omega)]
    rfl
theorem stepV_le {α : Type} (xs : List α) (a k : Nat) (hk : 0 < k) : (stepV xs a k).length ≤ xs.length := by
  unfold stepV
  refine Nat.le_trans (List.length_filterMap_le _ _) ?_
  rw [List.length_range]
  by_cases h : a < xs.length
  · have : (xs.length - a + (k - 1)) / k ≤ xs.length - a := by
      refine Nat.div_le_of_le_mul ?_
      have h1 : 1 ≤ xs.length - a := by omega
      have h2 : k * 1 ≤ k * (xs.length - a) := Nat.mul_le_mul_left k h1
      obtain ⟨d, hd⟩ : ∃ d, xs.length - a = d + 1 := ⟨xs.length - a - 1, by omega⟩
      rw [hd, Nat.mul_add, Nat.mul_one]
      have : d ≤ k * d := Nat.le_mul_of_pos_left d hk
      omega
    omega
  · have e2 : xs.length - a = 0 := by omega
    rw [e2, Nat.zero_add, Nat.div_eq_of_lt (by omega)]
    exact Nat.zero_le _
def tSlK (K : PySem.W.Frag) (te : TE) (tl ts : TO) : TE := fun σ H Q => te σ H fun x H1 => tl σ H1 fun l H2 => ts σ H2 fun t H3 =>
  ∃ (p : Addr) (xs : List V) (a k : Nat), x = .ref p ∧ l = some (a : Int) ∧ t = some (k : Int) ∧ 0 < k ∧ SqL K H3 p xs ∧ ∀ q, H3 q = none → Q (.ref q) (upd H3 q (.lst (stepV xs a k)))
theorem pe_sliceK {es : Expr} (he : PE X e te) (hl : PO X lo tl) (hs : PO X (some es) ts) : PE X (.Subscript e (.Slice lo none (some es) p2) pos) (tSlK X.K te tl ts) := by
  intro pins s σ H Q I h
  refine Subscript_ (thn (he pins s σ H _ I h) fun v s1 ⟨x, H1, I1, r1, q1⟩ => ?_)
  refine wpAny_Slice (thn (hl pins s1 σ H1 _ I1 q1) fun vl s2 ⟨l, H2, I2, pl, q2⟩ => ?_)
  rw [evalPart_none]
  refine wpAny_pure (thn (hs pins s2 σ H2 _ I2 q2) fun vt s3 ⟨t, H3, I3, pt, q3⟩ => ?_)
  obtain ⟨p, xs, a, k, ex, el, et, hk, hx, q⟩ := q3
  subst ex el et
  cases r1
  have I4 : Inv X pins σ H3 { s3 with heap := s3.heap.push { cls := .type "slice", data := .fields #[vl, .none, vt] } } := I3.kept (t' := s3.toks) fun b ob q => Heap.get?_push_of_some _ q
  obtain ⟨its, r, ht, hz⟩ := I4.list hx
  have hlen := r.length
  show wpAny (model X.prog X.w) X.A (subscriptTail e (.Slice lo none (some es) p2) (.ref p) (.ref s3.heap.objs.size)) (EP X pins σ Q) X.xe { s3 with heap := s3.heap.push { cls := .type "slice", data := .fields #[vl, .none, vt] } }
  refine tail_any (ops := [.ref p, .ref s3.heap.objs.size]) (T := "list") ht.isList.typeIs slot_list_getitem.lookup ?_ (by with_unfolding_all rfl)
  refine wpAny_getItem_list_slice ht.isList (Heap.IsSliceOf.new ..) pl .none pt (by intro z; have z2 := Option.some.inj z; omega) ?_ (by rw [List.size_toArray] <;> omega)
  rw [slicePick_step its a k hk]
  refine ⟨.ref _, _, I4.laid (t' := s3.toks) (o := .lst (stepV xs a k)) (fun b ob q => Heap.get?_push_of_some _ q) (Nat.le_refl _) ?_, rfl, q _ (I4.hok.fresh (Nat.le_refl _))⟩
  exact ⟨Nat.le_trans (stepV_le xs a k hk) hz, _, 0, Vals.step r a k, Heap.get?_push_size _ rfl⟩
end
end L2
end
section
namespace Z3
open PySem PySem.Spec PyProof.Rows
open Sem (wp)
theorem typeCall3 (a b c : Value) : checkTypeCall "zip" ⟨[a, b, c], []⟩ = pure () := by kernel_rfl
theorem newCall3 (a b c : Value) : checkBuiltinCall "zip.__new__" ⟨[.type "zip", a, b, c], []⟩ = pure () := by kernel_rfl
theorem args_init4 (a b c d : Value) : argsOk "object.__init__" ⟨[a, b, c, d], []⟩ := by
  unfold argsOk; rw [signature?_of (id := "object.__init__") (n := ['_', '_', 't', 'i', 'n', 'i', '_', '_']) (o := ['t', 'c', 'e', 'j', 'b', 'o']) (by kernel_rfl) F.owner_object]; kernel_rfl
abbrev IsTri (h : Heap) (T : Addr) (a b c : Value) : Prop := h.get? T = some { cls := .type "tuple", data := .seq #[a, b, c] }
section
variable {prog : Program} {w : World} {A : Around} {E : Value → Shared → Prop} {s : Shared}
theorem upd_tri {T : Addr} {a b c x : Value} {k : Nat} {Q : Unit → Shared → Prop} (hT : IsTri s.heap T a b c)
    (h : ∀ g, g.get? T = some { cls := .type "tuple", data := .seq ((#[a, b, c] : Array Value).setIfInBounds k x) } → Heap.SameBut T s.heap g → Q () { s with heap := g }) :
    wpAny (model prog w) A (updateSeq T (·.setIfInBounds k x)) Q E s := by
  refine wpAny_updateSeq hT rfl (h _ ?_ (Heap.SameBut.update ..))
  rw [Heap.get?_update_self _ hT rfl]
  simp [Obj.mapSeq]
structure Ap (z T O p q r a b c : Addr) : Prop where
  Tz : T ≠ z
  Oz : O ≠ z
  pz : p ≠ z
  qz : q ≠ z
  rz : r ≠ z
  TO : T ≠ O
  Tp : T ≠ p
  Tq : T ≠ q
  Tr : T ≠ r
  Op : O ≠ p
  Oq : O ≠ q
  Or : O ≠ r
  pq : p ≠ q
  pr : p ≠ r
  qr : q ≠ r
  az : a ≠ z
  aO : a ≠ O
  ap : a ≠ p
  aq : a ≠ q
  ar : a ≠ r
  bz : b ≠ z
  bO : b ≠ O
  bp : b ≠ p
  bq : b ≠ q
  br : b ≠ r
  cz : c ≠ z
  cO : c ≠ O
  cp : c ≠ p
  cq : c ≠ q
  cr : c ≠ r
variable {z T O p q r l m n : Addr} {i j k : Nat} {xs ys ws : Array Value} {x y v a b c : Value}
theorem li {g g' : Heap} {it a d : Addr} {k : Nat} (h : g.IsListIter it a k) (e : Heap.SameBut d g g') (ne : it ≠ d) : g'.IsListIter it a k := h.extBut e.extBut ne
theorem ll {g g' : Heap} {a d : Addr} {us : Array Value} (h : g.IsList a us) (e : Heap.SameBut d g g') (ne : a ≠ d) : g'.IsList a us := h.extBut e.extBut ne
theorem next_item {Q : Value → Shared → Prop} (D : Ap z T O p q r l m n)
    (hz : IsZip s.heap z T O .none) (hT : IsTri s.heap T (.ref p) (.ref q) (.ref r)) (hO : IsTri s.heap O a b c)
    (h1 : s.heap.IsListIter p l i) (h2 : s.heap.IsListIter q m j) (h3 : s.heap.IsListIter r n k) (g1 : s.heap.IsList l xs) (g2 : s.heap.IsList m ys) (g3 : s.heap.IsList n ws) (hx : xs[i]? = some x) (hy : ys[j]? = some y) (hv : ws[k]? = some v)
    (hQ : ∀ g, IsZip g z T O (rawInt s.heap.objs.size) → IsTri g O x y v → g.IsListIter p l (i + 1) → g.IsListIter q m (j + 1) → g.IsListIter r n (k + 1) → IsTri g s.heap.objs.size x y v → g.objs.size = s.heap.objs.size + 1 →
      (∀ d o, d ≠ z → d ≠ O → d ≠ p → d ≠ q → d ≠ r → s.heap.get? d = some o → g.get? d = some o) → Q (.ref s.heap.objs.size) { s with heap := g }) :
    wpAny (model prog w) A (Builtin.«zip.__next__» ⟨[.ref z], []⟩) (fun fin s' => ∃ u, fin = .done (.ret u) ∧ Q u s') E s := by
  show wpAny _ _ (field (.ref z) 2 >>= _) _ _ _; refine wpAny_bind (wpAny_field hz rfl (x := .bool false) rfl ?_)
  show wpAny _ _ (field (.ref z) 3 >>= _) _ _ _; refine wpAny_bind (wpAny_field hz rfl (x := .ref T) rfl ?_)
  refine wpAny_bind (wpAny_seqItems hT rfl ?_)
  show wpAny _ _ (Builtin.SmallTypes.ownedTupleIsFree (.ref z) >>= _) _ _ _; refine wpAny_bind ?_
  unfold Builtin.SmallTypes.ownedTupleIsFree; refine wpAny_bind (wpAny_field hz rfl (x := .none) rfl (wpAny_pure ?_))
  simp only [if_true]
  refine wpAny_bind (wpAny_rule ?_); refine wpAny_bind (wpAny_field hz rfl (x := .ref O) rfl ?_)
  refine wpAny_bind (wpAny_setField_rec hz (by simp) fun e1 z1 b1 => ?_)
  replace z1 : IsZip e1 z T O .ellipsis := z1
  refine wpAny_bind ?_
  simp only [List.zipIdx_cons, List.zipIdx_nil, List.forIn_cons, List.forIn_nil]; refine wpAny_bind (wpAny_bind (wpAny_onRaise ?_))
  show wpAny _ _ (Builtin.SmallTypes.nextOf (.ref p) >>= _) _ _ _
  refine wpAny_bind (wpAny_nextOf_list_item (li h1 b1 D.pz) (ll g1 b1 D.az) hx fun e2 p2 b2 => wpAny_pure ?_)
  have O2 : IsTri e2 O a b c := b2.extBut _ _ D.Op (b1.extBut _ _ D.Oz hO)
  refine wpAny_bind (wpAny_seqItems O2 rfl ?_)
  refine wpAny_bind (upd_tri O2 fun e3 O3 b3 => ?_)
  replace O3 : IsTri e3 O x b c := O3
  refine wpAny_bind (wpAny_letGo (wpAny_pure ?_)); refine wpAny_bind (wpAny_bind (wpAny_onRaise ?_))
  show wpAny _ _ (Builtin.SmallTypes.nextOf (.ref q) >>= _) _ _ _
  refine wpAny_bind (wpAny_nextOf_list_item (li (li (li h2 b1 D.qz) b2 D.pq.symm) b3 D.Oq.symm) (ll (ll (ll g2 b1 D.bz) b2 D.bp) b3 D.bO) hy fun e4 q4 b4 => wpAny_pure ?_)
  have O4 : IsTri e4 O x b c := b4.extBut _ _ D.Oq O3
  refine wpAny_bind (wpAny_seqItems O4 rfl ?_)
  refine wpAny_bind (upd_tri O4 fun e5 O5 b5 => ?_)
  replace O5 : IsTri e5 O x y c := O5
  refine wpAny_bind (wpAny_letGo (wpAny_pure ?_)); refine wpAny_bind (wpAny_bind (wpAny_onRaise ?_))
  show wpAny _ _ (Builtin.SmallTypes.nextOf (.ref r) >>= _) _ _ _
  refine wpAny_bind (wpAny_nextOf_list_item (li (li (li (li (li h3 b1 D.rz) b2 D.pr.symm) b3 D.Or.symm) b4 D.qr.symm) b5 D.Or.symm) (ll (ll (ll (ll (ll g3 b1 D.cz) b2 D.cp) b3 D.cO) b4 D.cq) b5 D.cO) hv fun e6 r6 b6 => wpAny_pure ?_)
  have O6 : IsTri e6 O x y c := b6.extBut _ _ D.Or O5
  refine wpAny_bind (wpAny_seqItems O6 rfl ?_)
  refine wpAny_bind (upd_tri O6 fun e7 O7 b7 => ?_)
  replace O7 : IsTri e7 O x y v := O7
  refine wpAny_bind (wpAny_letGo (wpAny_pure (wpAny_pure ?_)))
  refine wpAny_bind (wpAny_seqItems O7 rfl ?_); refine wpAny_bind (wpAny_newTuple ?_)
  have hsz : e7.objs.size = s.heap.objs.size := by rw [b7.1, b6.1, b5.1, b4.1, b3.1, b2.1, b1.1]
  have z7 : IsZip e7 z T O .ellipsis := b7.extBut _ _ D.Oz.symm (b6.extBut _ _ D.rz.symm (b5.extBut _ _ D.Oz.symm (b4.extBut _ _ D.qz.symm (b3.extBut _ _ D.Oz.symm (b2.extBut _ _ D.pz.symm z1)))))
  have k7 : ∀ d o, d ≠ z → d ≠ O → d ≠ p → d ≠ q → d ≠ r → s.heap.get? d = some o → e7.get? d = some o := fun d o c1 c2 c3 c4 c5 e =>
    b7.extBut _ _ c2 (b6.extBut _ _ c5 (b5.extBut _ _ c2 (b4.extBut _ _ c4 (b3.extBut _ _ c2 (b2.extBut _ _ c3 (b1.extBut _ _ c1 e))))))
  have p7 : e7.IsListIter p l (i + 1) := li (li (li (li (li p2 b3 D.Op.symm) b4 D.pq) b5 D.Op.symm) b6 D.pr) b7 D.Op.symm
  have q7 : e7.IsListIter q m (j + 1) := li (li (li q4 b5 D.Oq.symm) b6 D.qr) b7 D.Oq.symm
  have r7 : e7.IsListIter r n (k + 1) := li r6 b7 D.Or.symm
  have zlt : z < e7.objs.size := Heap.lt_size z7
  show wpAny _ _ (Builtin.SmallTypes.ownedTupleHandOut (.ref z) (.ref e7.objs.size) >>= _) _ _ _
  refine wpAny_bind ?_
  unfold Builtin.SmallTypes.ownedTupleHandOut
  have z8 : IsZip (e7.push { cls := .type "tuple", data := .seq #[x, y, v] }) z T O .ellipsis := Heap.get?_push_of_some _ z7
  refine wpAny_bind (wpAny_setField_rec z8 (by simp) fun e9 z9 b9 => ?_)
  replace z9 : IsZip e9 z T O (rawInt e7.objs.size) := z9
  refine wpAny_setField_rec z9 (by simp) fun f f1 bf => ?_
  replace f1 : IsZip f z T O (rawInt e7.objs.size) := f1
  have up : ∀ d o, d ≠ z → e7.get? d = some o → f.get? d = some o := fun d o c1 e => bf.extBut _ _ c1 (b9.extBut _ _ c1 (Heap.get?_push_of_some _ e))
  have f2 : IsTri f e7.objs.size x y v := bf.extBut _ _ (Nat.ne_of_gt zlt) (b9.extBut _ _ (Nat.ne_of_gt zlt) (Heap.get?_push_size _ rfl))
  have f3 : f.objs.size = e7.objs.size + 1 := by rw [bf.1, b9.1, Heap.size_push]
  rw [hsz] at f1 f2 f3
  refine wpAny_pure ⟨_, rfl, ?_⟩
  show Q (.ref e7.objs.size) _
  rw [hsz]
  exact hQ f f1 (up _ _ D.Oz O7) (p7.at fun o e => up _ o D.pz e) (q7.at fun o e => up _ o D.qz e) (r7.at fun o e => up _ o D.rz e) f2 f3 fun d o c1 c2 c3 c4 c5 e => up d o c1 (k7 d o c1 c2 c3 c4 c5 e)
theorem next_end {Q : Fin → Shared → Prop} (hh : A.handled = none) (D : Ap z T O p q r l m n)
    (hz : IsZip s.heap z T O .none) (hT : IsTri s.heap T (.ref p) (.ref q) (.ref r))
    (h1 : s.heap.IsListIter p l i) (g1 : s.heap.IsList l xs) (hx : xs[i]? = none)
    (hE : ∀ g e, (∀ d o, d ≠ z → d ≠ O → d ≠ p → d ≠ q → d ≠ r → s.heap.get? d = some o → g.get? d = some o) → (∃ o, g.get? e = some o ∧ o.cls = .type "StopIteration") → E (.ref e) { s with heap := g }) :
    wpAny (model prog w) A (Builtin.«zip.__next__» ⟨[.ref z], []⟩) Q E s := by
  show wpAny _ _ (field (.ref z) 2 >>= _) _ _ _; refine wpAny_bind (wpAny_field hz rfl (x := .bool false) rfl ?_)
  show wpAny _ _ (field (.ref z) 3 >>= _) _ _ _; refine wpAny_bind (wpAny_field hz rfl (x := .ref T) rfl ?_)
  refine wpAny_bind (wpAny_seqItems hT rfl ?_)
  show wpAny _ _ (Builtin.SmallTypes.ownedTupleIsFree (.ref z) >>= _) _ _ _; refine wpAny_bind ?_
  unfold Builtin.SmallTypes.ownedTupleIsFree; refine wpAny_bind (wpAny_field hz rfl (x := .none) rfl (wpAny_pure ?_))
  simp only [if_true]
  refine wpAny_bind (wpAny_rule ?_); refine wpAny_bind (wpAny_field hz rfl (x := .ref O) rfl ?_)
  refine wpAny_bind (wpAny_setField_rec hz (by simp) fun e1 z1 b1 => ?_)
  replace z1 : IsZip e1 z T O .ellipsis := z1
  refine wpAny_bind ?_
  simp only [List.zipIdx_cons, List.zipIdx_nil, List.forIn_cons, List.forIn_nil]; refine wpAny_bind (wpAny_bind (wpAny_onRaise ?_))
  show wpAny _ _ (Builtin.SmallTypes.nextOf (.ref p) >>= _) _ _ _
  refine wpAny_bind (wpAny_nextOf_list_end hh (li h1 b1 D.pz) (ll g1 b1 D.az) hx fun e2 u b2 he => ?_)
  obtain ⟨oe, hoe, hce⟩ := he
  have z2 : IsZip e2 z T O .ellipsis := b2 _ _ D.pz.symm z1
  have uz : u ≠ z := fun w => by subst w; rw [z2] at hoe; cases hoe; simp at hce
  refine wpAny_setField_rec z2 (by simp) fun e3 _ b3 => hE e3 u (fun d o c1 _ c3 _ _ w => b3.extBut _ _ c1 (b2 _ _ c3 (b1.extBut _ _ c1 w))) ⟨oe, b3.extBut _ _ uz hoe, hce⟩
theorem pyNext_item {Q : Option Value → Shared → Prop} (D : Ap z T O p q r l m n)
    (hz : IsZip s.heap z T O .none) (hT : IsTri s.heap T (.ref p) (.ref q) (.ref r)) (hO : IsTri s.heap O a b c)
    (h1 : s.heap.IsListIter p l i) (h2 : s.heap.IsListIter q m j) (h3 : s.heap.IsListIter r n k) (g1 : s.heap.IsList l xs) (g2 : s.heap.IsList m ys) (g3 : s.heap.IsList n ws) (hx : xs[i]? = some x) (hy : ys[j]? = some y) (hv : ws[k]? = some v)
    (hQ : ∀ g, IsZip g z T O (rawInt s.heap.objs.size) → IsTri g O x y v → g.IsListIter p l (i + 1) → g.IsListIter q m (j + 1) → g.IsListIter r n (k + 1) → IsTri g s.heap.objs.size x y v → g.objs.size = s.heap.objs.size + 1 →
      (∀ d o, d ≠ z → d ≠ O → d ≠ p → d ≠ q → d ≠ r → s.heap.get? d = some o → g.get? d = some o) → Q (some (.ref s.heap.objs.size)) { s with heap := g }) :
    wpAny (model prog w) A (pyNext (.ref z)) Q E s := by
  have ty : s.TypeIs (.ref z) "zip" := ⟨_, hz, rfl⟩
  unfold pyNext
  exact wpAny_bind (wpAny_attempt (wpAny_callSpecial?_slot (name := Str.ofString "__next__") ty F.slot_zip_next
    (wpAny_call_entry F.slot_zip_next ty F.entry_zip_next
      (next_item D hz hT hO h1 h2 h3 g1 g2 g3 hx hy hv fun g a1 a2 a3 a4 a5 a6 a7 a8 => wpAny_pure (hQ g a1 a2 a3 a4 a5 a6 a7 a8)) (F.args_zip_next_1 _))))
theorem pyNext_end {Q : Option Value → Shared → Prop} (hh : A.handled = none) (D : Ap z T O p q r l m n)
    (hz : IsZip s.heap z T O .none) (hT : IsTri s.heap T (.ref p) (.ref q) (.ref r))
    (h1 : s.heap.IsListIter p l i) (g1 : s.heap.IsList l xs) (hx : xs[i]? = none)
    (hQ : ∀ g, (∀ d o, d ≠ z → d ≠ O → d ≠ p → d ≠ q → d ≠ r → s.heap.get? d = some o → g.get? d = some o) → Q none { s with heap := g }) : wpAny (model prog w) A (pyNext (.ref z)) Q E s := by
  have ty : s.TypeIs (.ref z) "zip" := ⟨_, hz, rfl⟩
  unfold pyNext
  refine wpAny_bind (wpAny_attempt (wpAny_callSpecial?_slot (name := Str.ofString "__next__") ty F.slot_zip_next
    (wpAny_call_entry F.slot_zip_next ty F.entry_zip_next (next_end hh D hz hT h1 g1 hx fun g e hk he => ?_) (F.args_zip_next_1 _))))
  obtain ⟨o, ho, hc⟩ := he
  exact wpAny_bind (wpAny_isInstance (T := "StopIteration") (b := true) ⟨o, ho, hc⟩ isSubtype_stop (wpAny_pure (hQ _ hk)))
end
abbrev A1 (h : Heap) (l : Addr) : Heap := h.push { cls := .type "list_iterator", data := .fields #[.ref l, .int 0 0] }
abbrev A2 (h : Heap) (l m : Addr) : Heap := (A1 h l).push { cls := .type "list_iterator", data := .fields #[.ref m, .int 0 0] }
abbrev A3 (h : Heap) (l m n : Addr) : Heap := (A2 h l m).push { cls := .type "list_iterator", data := .fields #[.ref n, .int 0 0] }
abbrev A4 (h : Heap) (l m n : Addr) : Heap := (A3 h l m n).push { cls := .type "tuple", data := .seq #[.ref h.objs.size, .ref (A1 h l).objs.size, .ref (A2 h l m).objs.size] }
abbrev A5 (h : Heap) (l m n : Addr) : Heap := (A4 h l m n).push { cls := .type "tuple", data := .seq #[.none, .none, .none] }
abbrev A6 (h : Heap) (l m n : Addr) : Heap := (A5 h l m n).push { cls := .type "zip", data := .fields #[.none, .bool false, .bool false, .ref (A3 h l m n).objs.size, .ref (A4 h l m n).objs.size] }
set_option maxHeartbeats 4000000 in
theorem meets_new (l m n : Addr) (xs ys ws : Array Value) :
    Meets (Builtin.«zip.__new__» ⟨[.type "zip", .ref l, .ref m, .ref n], []⟩) (fun _ R s => s.heap.IsList l xs ∧ s.heap.IsList m ys ∧ s.heap.IsList n ws ∧
      R (.ok (.ret (.ref (A5 s.heap l m n).objs.size))) { s with heap := A6 s.heap l m n }) :=
  .of_wp fun prog w A R s h => by
    obtain ⟨hp, g, d, tk, os⟩ := s; obtain ⟨g1, g2, g3, h⟩ := h
    have hsub := sub_zip
    have L1 : Heap.IsList (Shared.heap ⟨hp, g, d, tk, os⟩) l xs := g1
    have L2 : Heap.IsList (Shared.heap ⟨hp.push { cls := .type "list_iterator", data := .fields #[.ref l, .int 0 0] }, g, d, tk, os⟩) m ys := Heap.IsList.push g2 _
    have L3 : Heap.IsList (Shared.heap ⟨(hp.push { cls := .type "list_iterator", data := .fields #[.ref l, .int 0 0] }).push { cls := .type "list_iterator", data := .fields #[.ref m, .int 0 0] }, g, d, tk, os⟩) n ws := Heap.IsList.push (Heap.IsList.push g3 _) _
    wp_walk using wpAny_pyIter_list L1, wpAny_pyIter_list L2, wpAny_pyIter_list L3
    exact ⟨_, rfl, h⟩
section
variable {prog : Program} {w : World} {A : Around} {E : Value → Shared → Prop} {s : Shared}
theorem call3 {l m n : Addr} {xs ys ws : Array Value} {Q : Value → Shared → Prop} (g1 : s.heap.IsList l xs) (g2 : s.heap.IsList m ys) (g3 : s.heap.IsList n ws)
    (h : ∀ g, IsZip g (s.heap.objs.size + 5) (s.heap.objs.size + 3) (s.heap.objs.size + 4) .none → IsTri g (s.heap.objs.size + 3) (.ref s.heap.objs.size) (.ref (s.heap.objs.size + 1)) (.ref (s.heap.objs.size + 2)) →
      IsTri g (s.heap.objs.size + 4) .none .none .none → g.IsListIter s.heap.objs.size l 0 → g.IsListIter (s.heap.objs.size + 1) m 0 → g.IsListIter (s.heap.objs.size + 2) n 0 →
      (∀ c o, s.heap.get? c = some o → g.get? c = some o) → Q (.ref (s.heap.objs.size + 5)) { s with heap := g }) :
    wpAny (model prog w) A (call (.type "zip") [.ref l, .ref m, .ref n]) Q E s := by
  refine callType_new F.called_zip (by decide) (typeCall3 _ _ _) (newCall3 _ _ _) (fun obj => args_init4 obj _ _ _) F.entry_zip_new (meets_new l m n xs ys ws) ⟨g1, g2, g3, ?_⟩
  have z1 : (A1 s.heap l).objs.size = s.heap.objs.size + 1 := Heap.size_push ..
  have z2 : (A2 s.heap l m).objs.size = s.heap.objs.size + 2 := by rw [Heap.size_push, z1]
  have z3 : (A3 s.heap l m n).objs.size = s.heap.objs.size + 3 := by rw [Heap.size_push, z2]
  have z4 : (A4 s.heap l m n).objs.size = s.heap.objs.size + 4 := by rw [Heap.size_push, z3]
  have z5 : (A5 s.heap l m n).objs.size = s.heap.objs.size + 5 := by rw [Heap.size_push, z4]
  have k1 : ∀ c o, s.heap.get? c = some o → (A1 s.heap l).get? c = some o := fun c o e => Heap.get?_push_of_some _ e
  have k2 : ∀ c o, (A1 s.heap l).get? c = some o → (A2 s.heap l m).get? c = some o := fun c o e => Heap.get?_push_of_some _ e
  have k3 : ∀ c o, (A2 s.heap l m).get? c = some o → (A3 s.heap l m n).get? c = some o := fun c o e => Heap.get?_push_of_some _ e
  have k4 : ∀ c o, (A3 s.heap l m n).get? c = some o → (A4 s.heap l m n).get? c = some o := fun c o e => Heap.get?_push_of_some _ e
  have k5 : ∀ c o, (A4 s.heap l m n).get? c = some o → (A5 s.heap l m n).get? c = some o := fun c o e => Heap.get?_push_of_some _ e
  have k6 : ∀ c o, (A5 s.heap l m n).get? c = some o → (A6 s.heap l m n).get? c = some o := fun c o e => Heap.get?_push_of_some _ e
  have q6 : (A6 s.heap l m n).get? (A5 s.heap l m n).objs.size = some _ := Heap.get?_push_size _ rfl
  have q5 : (A6 s.heap l m n).get? (A4 s.heap l m n).objs.size = some _ := k6 _ _ (Heap.get?_push_size _ rfl)
  have q4 : (A6 s.heap l m n).get? (A3 s.heap l m n).objs.size = some _ := k6 _ _ (k5 _ _ (Heap.get?_push_size _ rfl))
  have q3 : (A6 s.heap l m n).get? (A2 s.heap l m).objs.size = some _ := k6 _ _ (k5 _ _ (k4 _ _ (Heap.get?_push_size _ rfl)))
  have q2 : (A6 s.heap l m n).get? (A1 s.heap l).objs.size = some _ := k6 _ _ (k5 _ _ (k4 _ _ (k3 _ _ (Heap.get?_push_size _ rfl))))
  have q1 : (A6 s.heap l m n).get? s.heap.objs.size = some _ := k6 _ _ (k5 _ _ (k4 _ _ (k3 _ _ (k2 _ _ (Heap.get?_push_size _ rfl)))))
  show _ ∧ _
  rw [z3, z4, z5] at q6
  rw [z4] at q5
  rw [z1, z2, z3] at q4
  rw [z2] at q3
  rw [z1] at q2
  rw [z5]
  exact ⟨⟨_, q6, rfl⟩, h _ q6 q4 q5 ⟨_, q1, rfl, rfl⟩ ⟨_, q2, rfl, rfl⟩ ⟨_, q3, rfl, rfl⟩ fun c o e => k6 _ _ (k5 _ _ (k4 _ _ (k3 _ _ (k2 _ _ (k1 _ _ e)))))⟩
end
end Z3
end
section
namespace L2
open PySem PySem.Spec PyProof.Rows
def Itz3 (K : PySem.W.Frag) (a b c : Addr) : It :=
  ⟨fun i H => ∃ (xs ys zs : List V) (x y z : V), SqL K H a xs ∧ SqL K H b ys ∧ SqL K H c zs ∧ xs[i]? = some x ∧ ys[i]? = some y ∧ zs[i]? = some z,
    fun i H v H' => ∃ T x y z, v = .ref T ∧ H T = none ∧ H' = upd H T (.tup [x, y, z]) ∧ (∀ xs, SqL K H a xs → xs[i]? = some x) ∧ (∀ ys, SqL K H b ys → ys[i]? = some y) ∧ ∀ zs, SqL K H c zs → zs[i]? = some z,
    fun i H => ∃ xs : List V, SqL K H a xs ∧ xs.length ≤ i⟩
theorem turn_zip3 {P : Program} {w : World} {K : PySem.W.Frag} {elts : List Expr} {kk : Nat} {tpos : Pos} {a b c z T O p q r : Addr} (D : Z3.Ap z T O p q r a b c) :
    Turn P w K (.Tuple elts kk tpos) (Itz3 K a b c) [z, T, O, p, q, r] z (fun i h => IsZip h z T O .none ∧ Z3.IsTri h T (.ref p) (.ref q) (.ref r) ∧ (∃ x y v, Z3.IsTri h O x y v) ∧ h.IsListIter p a i ∧ h.IsListIter q b i ∧ h.IsListIter r c i) where
  mem := by simp
  obj := fun i h st d hd => by
    obtain ⟨hz, hT, ⟨x, y, v, hO⟩, ⟨o1, e1, _, d1⟩, ⟨o2, e2, _, d2⟩, ⟨o3, e3, _, d3⟩⟩ := st
    have e' : d = z ∨ d = T ∨ d = O ∨ d = p ∨ d = q ∨ d = r := by simpa using hd
    rcases e' with g | g | g | g | g | g
    · rw [g]; exact ⟨_, hz, fun v q => nomatch q⟩
    · rw [g]; exact ⟨_, hT, fun v q => nomatch q⟩
    · rw [g]; exact ⟨_, hO, fun v q => nomatch q⟩
    · rw [g]; exact ⟨o1, e1, fun v q => by rw [d1] at q; cases q⟩
    · rw [g]; exact ⟨o2, e2, fun v q => by rw [d2] at q; cases q⟩
    · rw [g]; exact ⟨o3, e3, fun v q => by rw [d3] at q; cases q⟩
  keep := fun i h h' st k => by
    obtain ⟨hz, hT, ⟨x, y, v, hO⟩, h1, h2, h3⟩ := st
    exact ⟨k z (by simp) _ hz, k T (by simp) _ hT, ⟨x, y, v, k O (by simp) _ hO⟩, h1.at fun o g => k p (by simp) o g, h2.at fun o g => k q (by simp) o g, h3.at fun o g => k r (by simp) o g⟩
  item := by
    intro X hP hw hK hc i pins s σ H E I hf st hg
    subst hP hw hK
    obtain ⟨hz, hT, ⟨x0, y0, v0, hO⟩, h1, h2, h3⟩ := st
    obtain ⟨xs, ys, zs, x, y, v, hqx, hqy, hqz, hx, hy, hv⟩ := hg
    obtain ⟨its, rv, p1, _⟩ := I.list hqx
    obtain ⟨its2, rv2, p2, _⟩ := I.list hqy
    obtain ⟨its3, rv3, p3, _⟩ := I.list hqz
    obtain ⟨u, hu, ru⟩ := rv.get hx
    obtain ⟨u2, hu2, ru2⟩ := rv2.get hy
    obtain ⟨u3, hu3, ru3⟩ := rv3.get hv
    have hzl : z < s.heap.objs.size := Heap.lt_size hz
    refine Z3.pyNext_item D hz hT hO h1 h2 h3 p1.isList p2.isList p3.isList (x := u) (y := u2) (v := u3) (by simpa using hu) (by simpa using hu2) (by simpa using hu3) fun h' z' O' h1' h2' h3' hN hsz hk => ?_
    refine ⟨_, rfl, wpAny_letOwnedTupleGo_zip (s := { s with heap := h' }) z' fun h'' z'' sb => ?_⟩
    have hN2 : h''.get? s.heap.objs.size = some { cls := .type "tuple", data := .seq #[u, u2, u3] } := (sb.2 _ (Nat.ne_of_gt hzl)).trans hN
    have new : ObjOk X.prog X.w (upd H s.heap.objs.size (.tup [x, y, v])) h'' s.heap.objs.size (.tup [x, y, v]) :=
      ⟨by show 3 ≤ sizeLine; decide, [u, u2, u3], .cons ru (.cons ru2 (.cons ru3 .nil)), ⟨_, hN2, rfl, _, rfl⟩⟩
    have I1 : Inv X pins σ (upd H s.heap.objs.size (.tup [x, y, v])) { s with heap := h'' } :=
      I.turnedNew (t' := s.toks) (ch := [z, T, O, p, q, r]) (fun d o hb g => (sb.2 d (fun q' => hb (by simp [q']))).trans (hk d o (fun q' => hb (by simp [q'])) (fun q' => hb (by simp [q'])) (fun q' => hb (by simp [q'])) (fun q' => hb (by simp [q'])) (fun q' => hb (by simp [q'])) g)) hf (Nat.le_refl _) new
    refine ⟨.ref s.heap.objs.size, _, I1, rfl, ⟨_, x, y, v, rfl, I.hok.fresh (Nat.le_refl _), rfl, fun l hl => by rw [I.list_inj hl hqx]; exact hx, fun l hl => by rw [I.list_inj hl hqy]; exact hy, fun l hl => by rw [I.list_inj hl hqz]; exact hv⟩, ⟨z'', ?_, ⟨u, u2, u3, ?_⟩, ?_, ?_, ?_⟩, fun d hdm => ?_⟩
    · exact (sb.2 _ D.Tz).trans (hk _ _ D.Tz D.TO D.Tp D.Tq D.Tr hT)
    · exact (sb.2 _ D.Oz).trans O'
    · exact h1'.at fun o g => (sb.2 _ D.pz).trans g
    · exact h2'.at fun o g => (sb.2 _ D.qz).trans g
    · exact h3'.at fun o g => (sb.2 _ D.rz).trans g
    · have hlt : d < s.heap.objs.size := by
        have e' : d = z ∨ d = T ∨ d = O ∨ d = p ∨ d = q ∨ d = r := by simpa using hdm
        rcases e' with g | g | g | g | g | g
        · rw [g]; exact hzl
        · rw [g]; exact Heap.lt_size hT
        · rw [g]; exact Heap.lt_size hO
        · rw [g]; obtain ⟨_, e1, _⟩ := h1; exact Heap.lt_size e1
        · rw [g]; obtain ⟨_, e2, _⟩ := h2; exact Heap.lt_size e2
        · rw [g]; obtain ⟨_, e3, _⟩ := h3; exact Heap.lt_size e3
      rw [upd_ne (Nat.ne_of_lt hlt)]
      exact (hf d hdm).1
  done := by
    intro X hP hw hK hc i pins s σ H E I hf st hg
    subst hP hw hK
    obtain ⟨hz, hT, ⟨x0, y0, v0, hO⟩, h1, h2, h3⟩ := st
    obtain ⟨xs, hqx, hend⟩ := hg
    obtain ⟨its, rv, p1, _⟩ := I.list hqx
    have l1 := rv.length
    exact Z3.pyNext_end (I.ok.hd hc) D hz hT h1 p1.isList (by simp; omega) fun h' hk => ⟨rfl, I.turnedL (t' := s.toks) (ch := [z, T, O, p, q, r]) (fun d o hb g =>
      hk d o (fun q' => hb (by simp [q'])) (fun q' => hb (by simp [q'])) (fun q' => hb (by simp [q'])) (fun q' => hb (by simp [q'])) (fun q' => hb (by simp [q'])) g) hf⟩
  self := fun A i s Q E st h => wpAny_pyIter_zip st.1 h
def iZip3 (K : PySem.W.Frag) (ta : TA) : TI := fun σ H R => ta σ H fun vs H1 => ∃ a b c xs ys zs, vs = [.ref a, .ref b, .ref c] ∧ SqL K H1 a xs ∧ SqL K H1 b ys ∧ SqL K H1 c zs ∧ R (Itz3 K a b c) H1
theorem ap3 (n a b c : Nat) (ha : a < n) (hb : b < n) (hc : c < n) : Z3.Ap (n + 5) (n + 3) (n + 4) n (n + 1) (n + 2) a b c := by
  constructor <;> (show ¬ (@Eq Nat _ _); omega)
theorem pi_zip3 {X : Cx} {e e2 e3 : Expr} {ta : TA} {p pos tpos : Pos} {elts : List Expr} {kk : Nat} (hg : Gl X "zip") (hm : X.mg "zip" = none) (ha : PA X [e, e2, e3] ta)
    (hs : starEach [e, e2, e3] X.env = (false, eval e X.env) :: starEach [e2, e3] X.env := by rfl) (hpl : (backTo pos (starEach [e2, e3] X.env)).any (·.1) = false := by rfl) :
    PI X (.Tuple elts kk tpos) (.Call (.Name "zip" p) [e, e2, e3] [] pos) (iZip3 X.K ta) := by
  intro pins s σ H R I h
  refine Call_ (ld_blt I hg hm boot_zip5 (PyProof.Rows.callWith_type1 (thn (ha pos pins s σ H _ I h) fun us s1 ⟨vs, H1, I1, r1, q1⟩ => ?_) hs hpl))
  obtain ⟨a, b, c, xs, ys, zs, ex, hqx, hqy, hqz, q⟩ := q1
  subst ex
  cases r1 with
  | cons r rr =>
    cases rr with
    | cons r' rr =>
      cases rr with
      | cons r'' rr =>
        cases rr
        cases r
        cases r'
        cases r''
        obtain ⟨its, rv, p1, _⟩ := I1.list hqx
        obtain ⟨its2, rv2, p2, _⟩ := I1.list hqy
        obtain ⟨its3, rv3, p3, _⟩ := I1.list hqz
        refine Z3.call3 p1.isList p2.isList p3.isList fun h' hz hT hO h1 h2 h3 hk => wpAny_pyIter_zip hz ?_
        have I2 : Inv X pins σ H1 { s1 with heap := h' } := I1.kept (t' := s1.toks) hk
        refine ⟨s1.heap.objs.size + 5, [s1.heap.objs.size + 5, s1.heap.objs.size + 3, s1.heap.objs.size + 4, s1.heap.objs.size, s1.heap.objs.size + 1, s1.heap.objs.size + 2], _, _, H1, rfl, I2, turn_zip3 (ap3 s1.heap.objs.size a b c p1.lt p2.lt p3.lt), ⟨hz, hT, ⟨_, _, _, hO⟩, h1, h2, h3⟩, fun d hdm => ?_, q⟩
        have hle : s1.heap.objs.size ≤ d := by
          simp only [List.mem_cons, List.not_mem_nil, or_false] at hdm
          rcases hdm with g | g | g | g | g | g <;> rw [g] <;> first | exact Nat.le_refl _ | exact Nat.le_add_right _ _
        exact I1.fpOk hle (I1.hok.fresh hle)
theorem for_it {J : It} {n : Nat} {g : TG} {tb : TS} {D : Ends} {σ : St} {H : Hp} (Pv : Nat → St → Hp → Prop) (h0 : Pv 0 σ H) (hgo : ∀ i σ H, i < n → Pv i σ H → J.go i H) (hst : ∀ σ H, Pv n σ H → J.stop n H)
    (hs : ∀ i x σ H H', i < n → Pv i σ H → J.yld i H x H' → g x σ H' fun σ2 H2 => tb { D with nx := Pv (i + 1), ct := Pv (i + 1), bk := D.nx } σ2 H2) (hd : ∀ σ H, Pv n σ H → D.nx σ H) :
    ∃ W : Nat → Nat → St → Hp → Prop, (∃ m, W 0 m σ H) ∧ ∀ i m σ H, W i m σ H →
      (J.stop i H ∧ D.nx σ H) ∨ (J.go i H ∧ ∃ N : St → Hp → Prop, (∀ σ' H', N σ' H' → ∃ m', m' < m ∧ W (i + 1) m' σ' H') ∧ ∀ x H', J.yld i H x H' → g x σ H' fun σ2 H2 => tb { D with nx := N, ct := N, bk := D.nx } σ2 H2) := by
  refine ⟨fun i m σ H => m = n - i ∧ i ≤ n ∧ Pv i σ H, ⟨n, by simp, Nat.zero_le _, h0⟩, ?_⟩
  rintro i m σ H ⟨rfl, hi, pv⟩
  by_cases hlt : i < n
  · exact .inr ⟨hgo i σ H hlt pv, Pv (i + 1), fun σ' H' p' => ⟨n - (i + 1), by omega, rfl, hlt, p'⟩, fun x H' y => hs i x σ H H' hlt pv y⟩
  · have e : i = n := by omega
    subst e
    exact .inl ⟨hst σ H pv, hd σ H pv⟩
theorem lc_it {J : It} {n : Nat} {g : TG} {tt : TT} {te : TE} {vs : List Nat} {σ : St} {H1 : Hp} {D : Addr} {Qd : Hp → Prop} (Pv : Nat → Hp → Prop) (h0 : Pv 0 (upd H1 D (.lst []))) (hgo : ∀ i H, i < n → Pv i H → J.go i H) (hst : ∀ H, Pv n H → J.stop n H)
    (hs : ∀ i x H H', i < n → Pv i H → J.yld i H x H' → g x (wipe σ vs) H' fun σ2 H2 => wipe σ2 vs = wipe σ vs ∧ tt σ2 H2 fun b H3 =>
      if b = true then te σ2 H3 fun y H4 => ∃ acc, H4 D = some (.lst acc) ∧ acc.length < sizeLine ∧ Pv (i + 1) (upd H4 D (.lst (acc ++ [y]))) else Pv (i + 1) H3) (hd : ∀ H, Pv n H → Qd H) :
    ∃ W : Nat → Nat → Hp → Prop, (∃ m, W 0 m (upd H1 D (.lst []))) ∧ ∀ i m H, W i m H →
      (J.stop i H ∧ Qd H) ∨ (J.go i H ∧ ∃ Nx : Hp → Prop, (∀ H', Nx H' → ∃ m', m' < m ∧ W (i + 1) m' H') ∧ ∀ x H', J.yld i H x H' → g x (wipe σ vs) H' fun σ2 H2 => wipe σ2 vs = wipe σ vs ∧ tt σ2 H2 fun b H3 =>
        if b = true then te σ2 H3 fun y H4 => ∃ acc, H4 D = some (.lst acc) ∧ acc.length < sizeLine ∧ Nx (upd H4 D (.lst (acc ++ [y]))) else Nx H3) := by
  refine ⟨fun i m H => m = n - i ∧ i ≤ n ∧ Pv i H, ⟨n, by simp, Nat.zero_le _, h0⟩, ?_⟩
  rintro i m H ⟨rfl, hi, pv⟩
  by_cases hlt : i < n
  · exact .inr ⟨hgo i H hlt pv, Pv (i + 1), fun H' p' => ⟨n - (i + 1), by omega, rfl, hlt, p'⟩, fun x H' y => hs i x H H' hlt pv y⟩
  · have e : i = n := by omega
    subst e
    exact .inl ⟨hst H pv, hd H pv⟩
theorem lc_it0 {J : It} {n : Nat} {g : TG} {te : TE} {vs : List Nat} {σ : St} {H1 : Hp} {D : Addr} {Qd : Hp → Prop} (Pv : Nat → Hp → Prop) (h0 : Pv 0 (upd H1 D (.lst []))) (hgo : ∀ i H, i < n → Pv i H → J.go i H) (hst : ∀ H, Pv n H → J.stop n H)
    (hs : ∀ i x H H', i < n → Pv i H → J.yld i H x H' → g x (wipe σ vs) H' fun σ2 H2 => wipe σ2 vs = wipe σ vs ∧ te σ2 H2 fun y H4 => ∃ acc, H4 D = some (.lst acc) ∧ acc.length < sizeLine ∧ Pv (i + 1) (upd H4 D (.lst (acc ++ [y])))) (hd : ∀ H, Pv n H → Qd H)
    (hg : ∀ x σ H Q Q', (∀ σ2 H2, Q σ2 H2 → Q' σ2 H2) → g x σ H Q → g x σ H Q') :
    ∃ W : Nat → Nat → Hp → Prop, (∃ m, W 0 m (upd H1 D (.lst []))) ∧ ∀ i m H, W i m H →
      (J.stop i H ∧ Qd H) ∨ (J.go i H ∧ ∃ Nx : Hp → Prop, (∀ H', Nx H' → ∃ m', m' < m ∧ W (i + 1) m' H') ∧ ∀ x H', J.yld i H x H' → g x (wipe σ vs) H' fun σ2 H2 => wipe σ2 vs = wipe σ vs ∧ tYes σ2 H2 fun b H3 =>
        if b = true then te σ2 H3 fun y H4 => ∃ acc, H4 D = some (.lst acc) ∧ acc.length < sizeLine ∧ Nx (upd H4 D (.lst (acc ++ [y]))) else Nx H3) := by
  refine lc_it Pv h0 hgo hst (fun i x H H' hi p y => hg _ _ _ _ _ (fun σ2 H2 q => ?_) (hs i x H H' hi p y)) hd
  exact ⟨q.1, q.2⟩
theorem lc_range0 {lo : Int} {n : Nat} {i0 : Nat} {te : TE} {vs : List Nat} {σ : St} {H1 : Hp} {D : Addr} {Qd : Hp → Prop} (Pv : Nat → Hp → Prop) (h0 : Pv 0 (upd H1 D (.lst [])))
    (hs : ∀ i H, i < n → Pv i H → wipe ((wipe σ vs).set i0 (some (.int (lo + i)))) vs = wipe σ vs ∧ te ((wipe σ vs).set i0 (some (.int (lo + i)))) H fun y H4 => ∃ acc, H4 D = some (.lst acc) ∧ acc.length < sizeLine ∧ Pv (i + 1) (upd H4 D (.lst (acc ++ [y])))) (hd : ∀ H, Pv n H → Qd H) :
    ∃ W : Nat → Nat → Hp → Prop, (∃ m, W 0 m (upd H1 D (.lst []))) ∧ ∀ i m H, W i m H →
      ((Itr lo n).stop i H ∧ Qd H) ∨ ((Itr lo n).go i H ∧ ∃ Nx : Hp → Prop, (∀ H', Nx H' → ∃ m', m' < m ∧ W (i + 1) m' H') ∧ ∀ x H', (Itr lo n).yld i H x H' → gName i0 x (wipe σ vs) H' fun σ2 H2 => wipe σ2 vs = wipe σ vs ∧ tYes σ2 H2 fun b H3 =>
        if b = true then te σ2 H3 fun y H4 => ∃ acc, H4 D = some (.lst acc) ∧ acc.length < sizeLine ∧ Nx (upd H4 D (.lst (acc ++ [y]))) else Nx H3) := by
  refine lc_range Pv h0 (fun i H hi p => ?_) hd
  obtain ⟨h1, h2⟩ := hs i H hi p
  exact ⟨h1, h2⟩
section
variable {X : Cx} {K : PySem.W.Frag}
theorem pg_tupK {es : List Expr} {k : Nat} {t : TGs} {n : Nat} {pos : Pos} (hK : X.K = K) (hc : X.calm = true) (h : PGs X es t)
    (hn : (assignEach es X.env).length = n := by rfl) (hst : (assignEach es X.env).findIdx? (·.1) = none := by rfl) : PG X (.Tuple es k pos) (gTup K n t) := by
  subst hK
  exact pg_tup hc h hn hst
theorem sl_listK (hK : X.K = K) : SlR X (rSlL K) := by subst hK; exact sl_list
end
theorem pe_gi {X : Cx} {x : Str} {i : Int} {t : Tok} {pos : Pos} (hg : Gl X x) (hm : X.mg x = some (.int i t)) (hd : (x == ("__debug__" : Str)) = false := by decide) : PE X (.Name x pos) (tC (.int i)) := pe_glob hg hm ⟨t, rfl⟩ hd
theorem pe_gr {X : Cx} {x : Str} {a : Addr} {pos : Pos} (hg : Gl X x) (hm : X.mg x = some (.ref a)) (hd : (x == ("__debug__" : Str)) = false := by decide) : PE X (.Name x pos) (tC (.ref a)) := pe_glob hg hm rfl hd
theorem iteI {i j : Int} {A B : Prop} (h1 : i = j → A) (h2 : ¬ i = j → B) : if decide (V.int i = V.int j) = true then A else B := by
  by_cases h : i = j
  · subst h; rw [if_pos (by simp)]; exact h1 rfl
  · rw [if_neg (by simpa using h)]; exact h2 h
theorem iteI' {i j : Int} {A B : Prop} (h1 : ¬ i = j → A) (h2 : i = j → B) : if (!decide (V.int i = V.int j)) = true then A else B := by
  by_cases h : i = j
  · subst h; rw [if_neg (by simp)]; exact h2 rfl
  · rw [if_pos (by simpa using h)]; exact h1 h
theorem iteD {c A B : Prop} [Decidable c] (h1 : c → A) (h2 : ¬ c → B) : if decide c = true then A else B := by
  by_cases h : c
  · rw [if_pos (decide_eq_true h)]; exact h1 h
  · rw [if_neg (by simpa using h)]; exact h2 h
theorem iteB {b : Bool} {A B : Prop} (h1 : b = true → A) (h2 : b = false → B) : if b = true then A else B := by
  cases b with
  | true => rw [if_pos rfl]; exact h1 rfl
  | false => rw [if_neg Bool.false_ne_true]; exact h2 rfl
theorem iteNB {b : Bool} {A B : Prop} (h1 : b = false → A) (h2 : b = true → B) : if (!b) = true then A else B := by
  cases b with
  | true => rw [if_neg (by simp)]; exact h2 rfl
  | false => rw [if_pos (by simp)]; exact h1 rfl
def Kp (S : List Addr) (H H' : Hp) : Prop := ∀ b o, H b = some o → b ∉ S → H' b = some o
theorem Kp.refl (S : List Addr) (H : Hp) : Kp S H H := fun _ _ h _ => h
theorem Kp.trans {S : List Addr} {H H1 H2 : Hp} (a : Kp S H H1) (b : Kp S H1 H2) : Kp S H H2 := fun c o h n => b c o (a c o h n) n
theorem Kp.mono {S S' : List Addr} {H H' : Hp} (a : Kp S H H') (h : ∀ x, x ∈ S → x ∈ S') : Kp S' H H' := fun c o e n => a c o e fun z => n (h c z)
theorem Kp.of {S : List Addr} {H H' : Hp} (a : Same H H') : Kp S H H' := fun c o e _ => a c o e
theorem Same.new {H : Hp} {a : Addr} {o : HO} (h : H a = none) : Same H (upd H a o) := fun b u e => by rw [upd_ne (ne_of_none e h)]; exact e
theorem Kp.upd {H : Hp} {a : Addr} {o : HO} : Kp [a] H (upd H a o) := fun b u e n => by rw [upd_ne (by simpa using n)]; exact e
end L2
end
section
namespace L2
open PySem PySem.Spec PyProof.Rows
theorem ObjOk.there {P : Program} {w : World} {H : Hp} {h : Heap} {a : Addr} {o : HO} (x : ObjOk P w H h a o) : ∃ u, h.get? a = some u := by
  cases o with
  | lst xs => obtain ⟨_, _, _, _, e⟩ := x; exact ⟨_, e⟩
  | tup xs => obtain ⟨_, _, _, u, e, _⟩ := x; exact ⟨_, e⟩
  | dK kvs => obtain ⟨_, _, _, _, o, _, _, e, _⟩ := x; exact ⟨_, e⟩
  | dT kvs => obtain ⟨_, _, _, _, o, _, _, e, _⟩ := x; exact ⟨_, e⟩
  | set S n => obtain ⟨o, _, _, _, e, _⟩ := x; exact ⟨_, e⟩
  | ins C dx fs => obtain ⟨_, _, _, e, _⟩ := x; exact ⟨_, e⟩
  | own y => obtain ⟨_, e⟩ := x; exact ⟨_, e⟩
  | xd fs => obtain ⟨_, ⟨_, _, _, e, _⟩, _⟩ := x; exact ⟨_, e⟩
  | rng lo hi => obtain ⟨_, _, _, e⟩ := x; exact ⟨_, e⟩
  | frz ob u => obtain ⟨e, _⟩ := x; exact ⟨_, e⟩
  | tbl ps => exact ⟨_, (show h.get? a = some _ from x)⟩
  | met f y => exact ⟨_, (show h.get? a = some _ from x)⟩
  | ext φ => obtain ⟨_, ⟨_, e⟩, _⟩ := x; exact ⟨_, e⟩
structure Flew (outer : List Env) (H H' : Hp) (h h' B : Heap) : Prop where
  un : Un (frs outer) [] H H' h h'
  k1 : ∀ b u, H' b = some u → ∃ o, B.get? b = some o
  k2 : ∀ b o, h.get? b = some o → b ∉ frs outer → ∃ o', B.get? b = some o' ∧ (H b = none → o' = o)
section
variable {P : Program} {w : World} {outer : List Env} {H H' : Hp} {h h1 h2 B : Heap}
theorem Flew.next (F : Flew outer H H' h h1 B) (st1 : B.StaysIn h1) (st : B.StaysIn h2) (up : h1.UpToSlots h2) (ff : h1.FunFrames B outer) : Flew outer H H' h h2 B := by
  refine ⟨⟨fun b o e n hb _ => ?_, fun b o e n hb hx => ?_, F.un.free, fun b o e _ => ?_, F.un.tups, F.un.frzs, F.un.tbls⟩, F.k1, F.k2⟩
  · obtain ⟨o', q, z⟩ := F.k2 b o e hb
    rw [← z n]; exact st _ _ q
  · obtain ⟨sl, q⟩ := F.un.slot b o e n hb hx
    obtain ⟨_, o2, q2, d⟩ := ff.mem hb
    obtain ⟨sl', q3⟩ := up b o2 q2 d
    rw [q] at q2; cases q2
    exact ⟨sl', q3⟩
  · by_cases hb : b ∈ frs outer
    · obtain ⟨_, o2, q2, d⟩ := ff.mem hb
      obtain ⟨sl', q3⟩ := up b o2 q2 d
      exact ⟨_, q3⟩
    · obtain ⟨o', q, _⟩ := F.k2 b o e hb
      exact ⟨_, st _ _ q⟩
theorem Flew.hok (F : Flew outer H H' h h1 B) (st1 : B.StaysIn h1) (st : B.StaysIn h2) (x : HOk P w H' h1) : HOk P w H' h2 := fun a o e =>
  (x a o e).stay (fun b u hb q => by
    have t : ∃ v, H' b = some v := by
      rcases hb with z | z
      · rw [z]; exact ⟨_, e⟩
      · exact ⟨_, z⟩
    obtain ⟨v, t⟩ := t
    obtain ⟨o', q'⟩ := F.k1 b v t
    have q2 := st1 _ _ q'
    rw [q] at q2; cases q2
    exact st _ _ q') (fun _ q => q) fun _ _ q => q
end
section
variable {X : Cx} {pins : List (Addr × Obj)} {σ : St} {H H' : Hp} {s : Shared} {h' B : Heap}
theorem Flew.out (F : Flew X.stack H H' s.heap h' B) (I : Inv X pins σ H s) (hx : X.ex = []) : Flew X.outer X.H_0 H' X.s_0.heap h' B := by
  have nx : ∀ b, b ∉ X.ex := fun b z => by rw [hx] at z; cases z
  have neL : ∀ b o, X.s_0.heap.get? b = some o → b ≠ X.env.locals := fun b o e => Nat.ne_of_lt (Nat.lt_of_lt_of_le (Heap.lt_size e) I.ok.above)
  have ns : ∀ b o, X.s_0.heap.get? b = some o → b ∉ frs X.outer → b ∉ frs X.stack := fun b o e hb z => (List.mem_cons.mp (I.stkSub b z)).elim (neL b o e) hb
  refine ⟨⟨fun b o e n hb _ => ?_, fun b o e n hb _ => ?_, fun b o e n _ => ?_, fun b o e _ => ?_, fun b xs e => F.un.tups b xs (I.base.tups b xs e), fun b o u e => F.un.frzs b o u (I.base.frzs b o u e), fun b ps e => ?_⟩, F.k1, fun b o e hb => ?_⟩
  · exact F.un.keep b o (I.base.keep b o e n hb (nx b)) (I.base.free b o e n (nx b)) (ns b o e hb) (by simp)
  · obtain ⟨sl, q⟩ := I.base.slot b o e n hb (nx b)
    obtain ⟨sl', q'⟩ := F.un.any q (I.base.free b o e n (nx b)) (by simp)
    exact ⟨sl', q'⟩
  · obtain ⟨o', q⟩ := I.base.there b o e (nx b)
    exact F.un.free b o' q (I.base.free b o e n (nx b)) (by simp)
  · obtain ⟨o', q⟩ := I.base.there b o e (nx b)
    exact F.un.there b o' q (by simp)
  · obtain ⟨m1, e1⟩ := I.base.tbls b ps e
    obtain ⟨m2, e2⟩ := F.un.tbls b _ e1
    exact ⟨m1 ++ m2, by rw [e2, Array.append_assoc]⟩
  · obtain ⟨o', q⟩ := I.base.there b o e (nx b)
    obtain ⟨o2, q2, z⟩ := F.k2 b o' q (ns b o e hb)
    refine ⟨o2, q2, fun n => ?_⟩
    have k := I.base.keep b o e n hb (nx b)
    rw [q] at k; cases k
    exact z (I.base.free b o e n (nx b))
end
def CXw (P : Program) (w : World) (C : Addr) : CXT := fun outer H s E e s' =>
  ∃ (a : Addr) (a0 : Value) (H' : Hp) (B : Heap), e = .ref a ∧ s'.os = s.os ∧ AllBare s'.gens ∧ Flew outer H H' s.heap s'.heap B ∧ HOk P w H' s'.heap ∧ Heap.FlyingW B outer a (.ref C) a0 s'.heap ∧ E (.ref C) none H'
section
variable {P : Program} {w : World} {K : PySem.W.Frag} {mg : Str → Option Value} {base : Heap} {N : List Str} {qual : Str} {scope : Scope} {f C : Addr} {cd : Value} {A : Around} {outer : List Env} {s : Shared} {H : Hp} {E : XK}
theorem passw : Passes (CXw P w C) (cxOf (CXw P w C) P w K mg base N qual scope f cd A outer s H E) E := fun pins σ H1 s1 e s' I h => by
  obtain ⟨a, a0, H', B, rfl, os, bare, F, hok, fl, q⟩ := h
  show wpAny _ _ (leaving _ (.ref a)) _ _ s'
  refine wpAny_leaves_onW I.ok.frames rfl fl fun h' fl' up => ?_
  have F2 := F.next fl.1 fl'.1 up fl.2.2.1
  exact ⟨a, a0, H', B, rfl, os.trans I.os, bare, F2.out I rfl, F.hok fl.1 fl'.1 hok, fl', q⟩
theorem ps_raise {x : Str} {np cpos pos : Pos} {e0 : Expr} {t : TA} (O : ∀ h : Heap, K.In h → OwnCls x C [.type "Exception", .type "BaseException", .type "object"] "Exception.__new__" mg h)
    (hg : Gl (cxOf (CXw P w C) P w K mg base N qual scope f cd A outer s H E) x)
    (ha : PA (cxOf (CXw P w C) P w K mg base N qual scope f cd A outer s H E) [e0] t) (hd : (x == ("__debug__" : Str)) = false := by decide)
    (he : starEach [e0] (cxOf (CXw P w C) P w K mg base N qual scope f cd A outer s H E).env = [(false, eval e0 (cxOf (CXw P w C) P w K mg base N qual scope f cd A outer s H E).env)] := by rfl) :
    PS (cxOf (CXw P w C) P w K mg base N qual scope f cd A outer s H E) (.Raise (some (.Call (.Name x np) [e0] [] cpos)) none pos) (fun _ σ H1 => t σ H1 fun xs H2 => xs.length ≤ sizeLine ∧ E (.ref C) none H2) := by
  intro pins s1 σ H1 D I h
  have O0 := O _ I.ok.mod.kin
  obtain ⟨tl, N', nm, q, bs, hdct, sn, sub, ab, col, dd, k0, k1, k2, k3, k5, mN, hC, hN, hni, T⟩ := O0.obj
  refine wpAny_Raise_call_subU (C := C) (nm := nm) (q := q) (N := N') (bs := bs) (bm := tl) (hdct := hdct) (sn := sn) (sub := sub) (ab := ab) (col := col) (dd := dd) (k0 := k0) (k1 := k1) (k2 := k2) (k3 := k3) (k5 := k5)
    PySem.F.excBase_Exception (by decide +kernel) PySem.F.excBase_Exception (mN := mN) (T.hasType PySem.F.excBase_Exception.hasBase) (I.ok.hd rfl) (by rw [he]; rfl) hni (ld_glob I hg O0.bound ⟨rfl, ?_⟩ hd)
  have h2 := ha cpos pins s1 σ H1 _ I h
  rw [he] at h2 ⊢
  refine Calls.evalArgs_plain (wpAny_mono h2 (fun vs s2 ⟨xs, H2, I2, r, z, qE⟩ => ⟨rfl, by rw [← r.length]; exact z, I2.bk _ _ hC, hN.keeps I2.bk, T.keeps I2.bk, fun h' e hm => ?_⟩) fun _ _ y => y)
  show wpAny _ _ (leaving _ (.ref e)) _ _ _
  have hin : ∀ (l : List Env), ∀ env ∈ l, ∀ b, env.frame = some b → b ∈ frs l := fun l env he b hb => List.mem_filterMap.mpr ⟨env, he, hb⟩
  have stk := I2.stack
  refine wpAny_leaves_madeW (base := PySem.W.hideAll s2.heap (frs (cxOf (CXw P w C) P w K mg base N qual scope f cd A outer s H E).stack)) (h := s2.heap) I.ok.frames rfl (fun b o q => PySem.W.of_hideAll _ q) (PySem.W.funFrames_hide stk (hin _)) hm fun h'' t fl _ _ up => ?_
  have F : Flew (cxOf (CXw P w C) P w K mg base N qual scope f cd A outer s H E).stack H2 H2 s2.heap h' (PySem.W.hideAll s2.heap (frs (cxOf (CXw P w C) P w K mg base N qual scope f cd A outer s H E).stack)) := by
    refine ⟨Un.kept hm.keeps, fun b u e => ?_, fun b o e hb => ⟨o, PySem.W.hideAll_get _ e hb, fun _ => rfl⟩⟩
    obtain ⟨o, q⟩ := (I2.hok b u e).there
    exact ⟨o, PySem.W.hideAll_get _ q fun hb => by rw [I2.stkFree b hb] at e; cases e⟩
  have st1 : (PySem.W.hideAll s2.heap (frs (cxOf (CXw P w C) P w K mg base N qual scope f cd A outer s H E).stack)).StaysIn h' := fun b o q => hm.keeps _ _ (PySem.W.of_hideAll _ q)
  have ff : h'.FunFrames (PySem.W.hideAll s2.heap (frs (cxOf (CXw P w C) P w K mg base N qual scope f cd A outer s H E).stack)) (cxOf (CXw P w C) P w K mg base N qual scope f cd A outer s H E).stack :=
    (PySem.W.funFrames_hide stk (hin _)).of_keeps fun b o e _ => ⟨o, hm.keeps b o e, rfl⟩
  have F2 := F.next st1 fl.1 up ff
  exact ⟨e, .ref t, H2, _, rfl, I2.os, I2.bare, F2.out I2 rfl, F.hok st1 fl.1 (I2.hok.kept hm.keeps), fl, qE⟩
theorem Fun.okw {x qual : Str} {st : Stmt} {f : Addr} {fd : FuncData} {N ps : List Str} {k : Nat} {sp : Sp} (F : Fun K x qual st f fd) (S : FnScope N ps (defScope st)) (len : ∀ vs H Q E, sp vs H Q E → vs.length = ps.length)
    (hbody : ∀ (cdv : Value) (A : Around) (outer : List Env) (s : Shared) (H : Hp) (vs : List V) (Q : VK) (E : XK), Room k (A.deeper (envOfC qual (defScope st) s.heap.objs.size f cdv)) → sp vs H Q E →
      ∃ t, PSs (cxOf (CXw P w C) P w K mg base N qual (defScope st) f cdv A outer s H E) (defBody st) t ∧ t { nx := fun _ H' => Q .non H', rt := Q } (start N vs) H) : FnOk P w K mg base (CXw P w C) (k + 1) f fd ps sp := by
  obtain ⟨oc, od, kV, doc, pm, an, cdv, ct, osl, rfl, lk, hcd⟩ := F.ex
  exact fn_of lk hcd S len fun A outer s H vs Q E hr hsp => hbody cdv A outer s H vs Q E hr hsp
end
section
variable {X : Cx} {C : Addr} {pins : List (Addr × Obj)} {σ : St} {H : Hp} {s : Shared} {E : XK}
abbrev tryX (X : Cx) (C : Addr) (pins : List (Addr × Obj)) (σ : St) (E : XK) : Cx :=
  { X with pn := X.pn ++ pins, xe := fun e s' => ∃ (H : Hp) (s : Shared), Inv X pins σ H s ∧ CXw X.prog X.w C X.stack H s E e s' }
abbrev sufX (X : Cx) (e : Addr) : Cx := { X with A := X.A.mark (some (.ref e)), calm := false, xe := fun _ _ => False }
theorem Cx.Ok.tryX (ok : X.Ok) : (tryX X C pins σ E).Ok :=
  ⟨ok.mod, ok.kind, ok.glob, ok.blt, ok.above, ok.inj, ok.has, ok.cab, ok.hd, ok.frames, ok.stk, ok.exf, ok.bs, ok.bsz, ok.noex, ok.exfs, ok.funs, ok.frf⟩
theorem Cx.Ok.sufX (ok : X.Ok) (e : Addr) : (sufX X e).Ok :=
  ⟨ok.mod, ok.kind, ok.glob, ok.blt, ok.above, ok.inj, ok.has, ok.cab, (fun z => by cases z), ok.frames, ok.stk, ok.exf, ok.bs, ok.bsz, ok.noex, ok.exfs, ok.funs, ok.frf⟩
theorem Cx.Ok.offtry {σ0 : St} (ok : (L2.tryX X C pins σ0 E).Ok) : X.Ok :=
  ⟨ok.mod, ok.kind, ok.glob, ok.blt, ok.above, ok.inj, ok.has, ok.cab, ok.hd, ok.frames, ok.stk, ok.exf, ok.bs, ok.bsz, ok.noex, ok.exfs, ok.funs, ok.frf⟩
theorem Inv.intry (I : Inv X pins σ H s) {σ0 : St} : Inv (tryX X C pins σ0 E) [] σ H s := ⟨I.ok.tryX, I.os, I.bare, I.base, I.loc, I.cell, I.free, I.freeC, fun p hp => I.pin p (by simpa using hp), I.hok, I.len⟩
theorem Inv.offtry {σ0 : St} {pins' : List (Addr × Obj)} (I : Inv (tryX X C pins σ0 E) pins' σ H s) : Inv X pins σ H s := ⟨I.ok.offtry, I.os, I.bare, I.base, I.loc, I.cell, I.free, I.freeC, fun p hp => I.pin p (List.mem_append_left _ hp), I.hok, I.len⟩
theorem Inv.insuf (I : Inv X pins σ H s) (e : Addr) : Inv (sufX X e) pins σ H s := ⟨I.ok.sufX e, I.os, I.bare, I.base, I.loc, I.cell, I.free, I.freeC, I.pin, I.hok, I.len⟩
theorem Inv.offsuf {e : Addr} (I : Inv (sufX X e) pins σ H s) (ok : X.Ok) : Inv X pins σ H s := ⟨ok, I.os, I.bare, I.base, I.loc, I.cell, I.free, I.freeC, I.pin, I.hok, I.len⟩
theorem SP.offtry {σ0 : St} {D : Ends} {f : Flow} {s' : Shared} (h : SP (tryX X C pins σ0 E) [] D f s') : SP X pins D f s' := by
  cases f with
  | next => obtain ⟨σ', H', I, q⟩ := h; exact ⟨σ', H', Inv.offtry I, q⟩
  | brk => obtain ⟨σ', H', I, q⟩ := h; exact ⟨σ', H', Inv.offtry I, q⟩
  | cont => obtain ⟨σ', H', I, q⟩ := h; exact ⟨σ', H', Inv.offtry I, q⟩
  | ret u => obtain ⟨v, σ', H', I, r, q⟩ := h; exact ⟨v, σ', H', Inv.offtry I, r, q⟩
theorem SP.offsuf {e : Addr} {D : Ends} {f : Flow} {s' : Shared} (h : SP (sufX X e) pins D f s') (ok : X.Ok) : SP X pins D f s' := by
  cases f with
  | next => obtain ⟨σ', H', I, q⟩ := h; exact ⟨σ', H', I.offsuf ok, q⟩
  | brk => obtain ⟨σ', H', I, q⟩ := h; exact ⟨σ', H', I.offsuf ok, q⟩
  | cont => obtain ⟨σ', H', I, q⟩ := h; exact ⟨σ', H', I.offsuf ok, q⟩
  | ret u => obtain ⟨v, σ', H', I, r, q⟩ := h; exact ⟨v, σ', H', I.offsuf ok, r, q⟩
theorem ps_try {x : Str} {np hpos pos : Pos} {body suite : List Stmt} {b0 : Stmt} {tb : List (Addr × Obj) → St → XK → TS} {ts : Addr → TS} (O : ∀ h : Heap, X.K.In h → OwnCls x C [.type "Exception", .type "BaseException", .type "object"] "Exception.__new__" X.mg h)
    (hg : Gl X x) (hst : X.stack = X.env :: X.outer) (hf : X.env.frame = some X.env.locals)
    (hb : ∀ (pins0 : List (Addr × Obj)) (σ0 : St) (E : XK), PSs (tryX X C pins0 σ0 E) body (tb pins0 σ0 E)) (hs : ∀ e, PSs (sufX X e) (b0 :: suite) (ts e)) (hd : (x == ("__debug__" : Str)) = false := by decide) :
    PS X (.Try body [.ExceptHandler (some (.Name x np)) none (b0 :: suite) hpos] [] [] pos) (fun D σ H => ∀ pins, tb pins σ (fun _ _ H' => ∀ e, ts e D σ H') D σ H) := by
  intro pins s σ H D I h
  have ok := I.ok
  refine wpAny_Try_except (wpAny_mono (hb pins σ _ [] s σ H D I.intry (h pins)) (fun f s1 q => ?_) fun e s1 q => ?_)
  · have q := SP.offtry q
    cases f with
    | next => exact wpAny_execs_nil q
    | brk => exact q
    | cont => exact q
    | ret u => exact q
  · obtain ⟨H1, s0, I0, a, a0, H', B, rfl, os, bare, F, hok, fl, qE⟩ := q
    have hfr : X.A.frames = some (X.env :: X.outer) := by rw [← hst]; exact ok.frames
    rw [hst] at fl
    have ff : s1.heap.FunFrames B X.stack := by rw [hst]; exact fl.2.2.1
    refine wpAny_looks_onW hfr hf fl fun h4 held up4 => ?_
    refine wpAny_landsW held fun h5 fl5 up5 => ?_
    have F5 := F.next fl.1 fl5.1 (up4.trans up5) ff
    have ok5 := F.hok fl.1 fl5.1 hok
    have J5 : Inv X pins σ H' { s1 with heap := h5 } := I0.call' os F5.un ok5 bare (fun b z => absurd z (by simp))
    have O5 := O _ ok.mod.kin
    obtain ⟨tl, N', nm, q, bs, hdct, sn, sub, ab, col, dd, k0, k1, k2, k3, k5, mN, hC, hN, hni, T⟩ := O5.obj
    obtain ⟨ob, hob, hobc⟩ := fl5.there
    refine wpAny_handleBy_cons (codeAny_handlers_test (ld_glob (X := sufX X a) (J5.insuf a) hg O5.bound ?_ hd)) (by intro q; cases q)
    refine wpAny_excMatches_sub_self (J5.bk _ _ hC) hob hobc (T.hasType PySem.F.excBase_Exception.hasBase) (codeAny_handlers_suite ?_)
    refine lands_againW fl5 fun h6 fl6 up6 => ?_
    have ff5 : h5.FunFrames B X.stack := by rw [hst]; exact fl5.2.2.1
    have F6 := F5.next fl5.1 fl6.1 up6 ff5
    have ok6 := F5.hok fl5.1 fl6.1 ok5
    have J6 : Inv X pins σ H' { s1 with heap := h6 } := I0.call' os F6.un ok6 bare (fun b z => absurd z (by simp))
    exact wpAny_mono (hs a pins _ σ H' D (J6.insuf a) (qE a)) (fun f s2 q => SP.offsuf q ok) fun _ _ z => z.elim
theorem pe_methX {Y : Cx} {CX : CXT} {k : Nat} {f D : Addr} {fd : FuncData} {ps : List Str} {sp : Sp} {dvs : List V} {ds : List Value} {m : Str} {pos apos : Pos} {e o : Expr} {es : List Expr} {ta : TE} {t : TA} {σ0 : St} {pl : Sem Bool}
    (he : PE Y o ta) (c : Cls Y.K D) (hm : Meth Y.K D m f) (F : FnOk Y.prog Y.w Y.K Y.mg Y.base CX k f fd ps sp) (hr : Room k Y.A) (hb : Binds Y.K fd ps ds) (hd : Vals dvs ds)
    (hx : ∀ (pins : List (Addr × Obj)) (H : Hp) (s : Shared) (e : Value) (s' : Shared), Inv Y pins σ0 H s → CX Y.stack H s E e s' → Y.xe e s') (ha : PA Y (e :: es) t)
    (hst : starEach (e :: es) Y.env = (false, eval e Y.env) :: starEach es Y.env := by rfl) (hpl : (backTo pos (starEach es Y.env)).any (·.1) = false := by rfl)
    (ht : eval (.Call (.Attribute o m apos) (e :: es) [] pos) Y.env = (do
      let ov ← eval o Y.env
      standAt apos.atName
      let (f, first) ← holding [ov] (getMethod ov m pl)
      callWith pos f first (backTo pos (starEach (e :: es) Y.env)) (backToKw pos (keywordEach [] Y.env))) := by rfl) :
    PE Y (.Call (.Attribute o m apos) (e :: es) [] pos) (fun σ H Q => σ = σ0 ∧ tMeth D m sp dvs E ta t σ H Q) := by
  intro pins s σ H Q I h
  obtain ⟨rfl, h⟩ := h
  refine PySem.W.methodCall_KW (pl := pl) (thn (he pins s σ H _ I h) fun u s1 ⟨x, H1, I1, rx, a, dx, fs, ex, ea, l, q⟩ => ?_) ht
  subst ex
  obtain rfl : u = Value.ref a := rx
  refine getmeth_ok I1 ea c hm l ?_
  refine PySem.W.callWith_K (first := [.ref a]) (h₀ := Y.base) I.ok.mod.kin hm.kp (thn (ha pos pins s1 σ H1 _ I1 q) fun us s2 ⟨vs, H2, I2, r, q2⟩ => ⟨I2.kIn, ?_⟩) hst hpl
  have r2 : Vals (V.ref a :: (vs ++ dvs)) (Value.ref a :: (us ++ ds)) := .cons rfl (r.append hd)
  have hl : (Value.ref a :: us ++ ds).length = ps.length := by
    have e := r2.length
    rw [F.len _ _ _ _ q2] at e
    exact e.symm
  refine wpAny_call (codeAny_mono (F.run Y.A Y.stack s2 H2 ⟨Value.ref a :: us, []⟩ (Value.ref a :: (us ++ ds)) (V.ref a :: (vs ++ dvs)) Q E hr I2.env0 (hb s2 (Value.ref a :: us) I2.kIn hl) r2 q2) fun r s' hq => ?_)
  cases r with
  | error e => exact hx pins H2 s2 e s' I2 hq
  | ok fl =>
    cases fl with
    | ret u => exact I2.after hq
    | next => exact False.elim hq
    | brk => exact False.elim hq
    | cont => exact False.elim hq
theorem pass_try {σ0 : St} : ∀ (pins' : List (Addr × Obj)) (H : Hp) (s : Shared) (e : Value) (s' : Shared), Inv (tryX X C pins σ0 E) pins' σ0 H s → CXw X.prog X.w C (tryX X C pins σ0 E).stack H s E e s' → (tryX X C pins σ0 E).xe e s' :=
  fun _ H s _ _ I q => ⟨H, s, Inv.offtry I, q⟩
end
end L2
end
section
section
namespace L2
open PySem PySem.Spec PyProof.Rows
open PySem.W (WData Codec OpenSpec Well WellAll ReadsW ReadsAllW)
mutual
/-- x stands for the datum d, lists and tuples all the way -/
inductive Dw (K : PySem.W.Frag) (H : Hp) : V → WData → Prop
  | non : Dw K H .non .none
  | bl (b : Bool) : Dw K H (.bl b) (.bool b)
  | int (i : Int) : Dw K H (.int i) (.int i)
  | str (x : Str) : Dw K H (.str x) (.str x)
  | byt (b : Array UInt8) : Dw K H (.byt b) (.bytes b.toList)
  | lst {a : Addr} {xs : List V} {ds : List WData} : SqL K H a xs → DwAll K H xs ds → Dw K H (.ref a) (.list ds)
  | tup {a : Addr} {xs : List V} {ds : List WData} : SqT K H a xs → DwAll K H xs ds → Dw K H (.ref a) (.tuple ds)
inductive DwAll (K : PySem.W.Frag) (H : Hp) : List V → List WData → Prop
  | nil : DwAll K H [] []
  | cons {v : V} {vs : List V} {d : WData} {ds : List WData} : Dw K H v d → DwAll K H vs ds → DwAll K H (v :: vs) (d :: ds)
end
theorem dw_ints {K : PySem.W.Frag} {H : Hp} : ∀ ns : List Int, DwAll K H (ns.map V.int) (ns.map WData.int)
  | [] => .nil
  | n :: r => .cons (.int n) (dw_ints r)
theorem ints_dw {K : PySem.W.Frag} {H : Hp} : ∀ (ns : List Int) (xs : List V), DwAll K H xs (ns.map WData.int) → xs = ns.map V.int
  | [], xs, h => by
    cases h
    rfl
  | n :: r, xs, h => by
    cases h with
    | cons h1 h2 =>
      cases h1
      rw [ints_dw r _ h2] <;> rfl
section
variable {P : Program} {w : World} {K : PySem.W.Frag} {H : Hp} {h : Heap} {R : PySem.W.WRecords} {cl : Str → Option Addr}
theorem sqL_at {a : Addr} {xs : List V} (hok : HOk P w H h) (KX : K.In h) (q : SqL K H a xs) : ∃ (its : List Value) (o : Obj) (n : Nat), Vals xs its ∧ h.get? a = some o ∧ o.cls = .type "list" ∧ o.data = .seq its.toArray n := by
  rcases q with q | ⟨o, its, n, e, hc, _, hd, _, hv⟩
  · obtain ⟨_, its, n, hv, e⟩ := (show ObjOk P w H h a (.lst xs) from q.ok hok)
    exact ⟨its, _, n, hv, e, rfl, rfl⟩
  · exact ⟨its.toList, o, n, hv, KX _ _ e, hc, by simp [hd]⟩
theorem sqT_at {a : Addr} {xs : List V} (hok : HOk P w H h) (KX : K.In h) (q : SqT K H a xs) : ∃ (its : List Value) (o : Obj) (n : Nat), Vals xs its ∧ h.get? a = some o ∧ o.cls = .type "tuple" ∧ o.data = .seq its.toArray n := by
  rcases q with q | ⟨o, its, n, e, hc, hd, _, hv⟩
  · obtain ⟨_, its, hv, o, e, hc, n, hd⟩ := (show ObjOk P w H h a (.tup xs) from q.ok hok)
    exact ⟨its, o, n, hv, e, hc, hd⟩
  · exact ⟨its.toList, o, n, hv, KX _ _ e, hc, by simp [hd]⟩
mutual
theorem Dw.reads (hok : HOk P w H h) (KX : K.In h) : ∀ (d : WData) (v : V) (u : Value), Dw K H v d → RelV v u → ∃ as, ReadsW R cl h u d as
  | .none, _, _, x, r => by
    cases x
    cases r
    exact ⟨_, ReadsW.none⟩
  | .bool b, _, _, x, r => by
    cases x
    cases r
    exact ⟨_, ReadsW.bool b⟩
  | .int i, _, _, x, r => by
    cases x
    obtain ⟨t, rfl⟩ := r
    exact ⟨_, ReadsW.int i t⟩
  | .str s, _, _, x, r => by
    cases x
    obtain ⟨t, rfl⟩ := r
    exact ⟨_, ReadsW.str s t⟩
  | .bytes b, _, _, x, r => by
    cases x
    obtain ⟨t, rfl⟩ := r
    exact ⟨_, ReadsW.bytes _ t⟩
  | .list ds, _, _, x, r => by
    cases x with
    | lst hs ha =>
      cases r
      obtain ⟨its, o, n, rv, ho, hc, hd⟩ := sqL_at hok KX hs
      obtain ⟨as, hr⟩ := Dw.readsAll hok KX ds _ its ha rv
      exact ⟨_, ReadsW.list ho hc hd hr⟩
  | .tuple ds, _, _, x, r => by
    cases x with
    | tup hs ha =>
      cases r
      obtain ⟨its, o, n, rv, ho, hc, hd⟩ := sqT_at hok KX hs
      obtain ⟨as, hr⟩ := Dw.readsAll hok KX ds _ its ha rv
      exact ⟨_, ReadsW.tuple ho hc hd hr⟩
  | .float _, _, _, x, _ => by cases x
  | .dict _, _, _, x, _ => by cases x
  | .bytearray _, _, _, x, _ => by cases x
  | .set _, _, _, x, _ => by cases x
  | .frozenset _, _, _, x, _ => by cases x
  | .obj _ _, _, _, x, _ => by cases x
theorem Dw.readsAll (hok : HOk P w H h) (KX : K.In h) : ∀ (ds : List WData) (vs : List V) (us : List Value), DwAll K H vs ds → Vals vs us → ∃ as, ReadsAllW R cl h us ds as
  | [], _, _, x, r => by
    cases x
    cases r
    exact ⟨_, ReadsAllW.nil⟩
  | d :: ds, _, _, x, r => by
    cases x with
    | cons h1 h2 =>
      cases r with
      | cons r1 r2 =>
        obtain ⟨as, q1⟩ := Dw.reads hok KX d _ _ h1 r1
        obtain ⟨bs, q2⟩ := Dw.readsAll hok KX ds _ _ h2 r2
        exact ⟨_, ReadsAllW.cons q1 q2⟩
end
end
mutual
/-- data that a codec tells -/
def plW : WData → Bool
  | .none => true
  | .bool _ => true
  | .int _ => true
  | .str _ => true
  | .bytes _ => true
  | .list xs => plWs xs
  | .tuple xs => plWs xs
  | _ => false
def plWs : List WData → Bool
  | [] => true
  | x :: r => plW x && plWs r
end
theorem plWs_map {α : Type} {f : α → WData} (h : ∀ a, plW (f a) = true) : ∀ l : List α, plWs (l.map f) = true
  | [] => rfl
  | x :: r => by
    show (plW (f x) && plWs (r.map f)) = true
    rw [h x, plWs_map h r] <;> rfl
theorem pl_enc : ∀ (c : Codec) (a : c.denote), plW (c.enc a) = true
  | .unit, _ => rfl
  | .bool, _ => rfl
  | .int _ _, _ => rfl
  | .nat _ _, _ => rfl
  | .u8, _ => rfl
  | .bytes _ _, _ => rfl
  | .text _ _ _ _, _ => rfl
  | .list _ _ c, a => plWs_map (fun x => pl_enc c x) a
  | .pair c d, a => by
    show (plW (c.enc a.1) && (plW (d.enc a.2) && true)) = true
    rw [pl_enc c a.1, pl_enc d a.2] <;> rfl
  | .triple c d e, a => by
    show (plW (c.enc a.1) && (plW (d.enc a.2.1) && (plW (e.enc a.2.2) && true))) = true
    rw [pl_enc c a.1, pl_enc d a.2.1, pl_enc e a.2.2] <;> rfl
  | .option c, none => rfl
  | .option c, some x => pl_enc c x
theorem pl_encAll : ∀ (cs : List Codec) (a : Codec.denoteAll cs), plWs (Codec.encAll cs a) = true
  | [], _ => rfl
  | c :: cs, a => by
    show (plW (c.enc a.1) && plWs (Codec.encAll cs a.2)) = true
    rw [pl_enc c a.1, pl_encAll cs a.2] <;> rfl
theorem weight_mem : ∀ {xs : List WData} {d : WData}, d ∈ xs → d.weight ≤ WData.weightAll xs
  | [], d, h => absurd h (by simp)
  | x :: r, d, h => by
    show d.weight ≤ x.weight + 1 + WData.weightAll r
    rcases List.mem_cons.mp h with e | m
    · rw [e]
      omega
    · have z := weight_mem m
      omega
def toV : Value → V
  | .none => .non
  | .bool b => .bl b
  | .int i _ => .int i
  | .str x _ => .str x
  | .bytes b _ => .byt b
  | .ref a => .ref a
  | _ => .non
def OkU (A : List Addr) : Value → Prop
  | .none => True
  | .bool _ => True
  | .int _ _ => True
  | .str _ _ => True
  | .bytes _ _ => True
  | .ref a => a ∈ A
  | _ => False
theorem OkU.mono {A B : List Addr} (h : ∀ a ∈ A, a ∈ B) : ∀ {u : Value}, OkU A u → OkU B u := fun {u} x => by
  cases u with
  | ref a => exact h a x
  | none => trivial
  | bool b => trivial
  | int i t => trivial
  | str s t => trivial
  | bytes b t => trivial
  | _ => exact False.elim x
theorem relV_toV {A : List Addr} {u : Value} (x : OkU A u) : RelV (toV u) u := by
  cases u with
  | ref a => rfl
  | none => rfl
  | bool b => rfl
  | int i t => exact ⟨t, rfl⟩
  | str s t => exact ⟨t, rfl⟩
  | bytes b t => exact ⟨t, rfl⟩
  | _ => exact False.elim x
theorem vals_toV {A : List Addr} : ∀ {vs : List Value}, (∀ u ∈ vs, OkU A u) → Vals (vs.map toV) vs
  | [], _ => .nil
  | u :: r, h => .cons (relV_toV (h u (List.mem_cons_self ..))) (vals_toV fun x hx => h x (List.mem_cons_of_mem _ hx))
def ArgOb (h : Heap) (A : List Addr) (a : Addr) : Prop := ∃ vs : List Value, vs.length ≤ sizeLine ∧ (∀ u ∈ vs, OkU A u) ∧
  (h.get? a = some { cls := .type "list", data := .seq vs.toArray } ∨ h.get? a = some { cls := .type "tuple", data := .seq vs.toArray })
theorem ArgOb.mono {h : Heap} {A B : List Addr} {a : Addr} (k : ∀ a ∈ A, a ∈ B) (x : ArgOb h A a) : ArgOb h B a := by
  obtain ⟨vs, h1, h2, h3⟩ := x
  exact ⟨vs, h1, fun u hu => (h2 u hu).mono k, h3⟩
theorem wellAll_len {P : Params} {h : Heap} : ∀ {vs : List Value} {ds : List WData}, WellAll P h vs ds → vs.length = ds.length
  | _, _, .nil => rfl
  | _, _, .cons _ b => by
    show _ + 1 = _ + 1
    rw [wellAll_len b]
theorem well_list {P : Params} {h : Heap} {v : Value} {ds : List WData} (x : Well P h v (.list ds)) : ∃ (a : Addr) (vs : List Value), v = .ref a ∧ h.get? a = some { cls := .type "list", data := .seq vs.toArray } ∧ WellAll P h vs ds := by
  cases x with
  | list ho hall => exact ⟨_, _, rfl, ho, hall⟩
theorem well_tuple {P : Params} {h : Heap} {v : Value} {ds : List WData} (x : Well P h v (.tuple ds)) : ∃ (a : Addr) (vs : List Value), v = .ref a ∧ h.get? a = some { cls := .type "tuple", data := .seq vs.toArray } ∧ WellAll P h vs ds := by
  cases x with
  | tuple ho hall => exact ⟨_, _, rfl, ho, hall⟩
theorem well_cons {P : Params} {h : Heap} {us : List Value} {d : WData} {ds : List WData} (x : WellAll P h us (d :: ds)) : ∃ (v : Value) (vs : List Value), us = v :: vs ∧ Well P h v d ∧ WellAll P h vs ds := by
  cases x with
  | cons a b => exact ⟨_, _, rfl, a, b⟩
theorem line_of {n : Nat} (h : n ≤ 1048576) : n ≤ sizeLine := Nat.le_trans h (by decide)
section
variable {P : Params} {h : Heap}
mutual
theorem area_one : ∀ (d : WData) (v : Value), Well P h v d → plW d = true → d.weight ≤ 1048576 → ∃ A : List Addr, OkU A v ∧ ∀ a ∈ A, ArgOb h A a
  | .none, _, x, _, _ => by
    cases x
    exact ⟨[], trivial, fun a m => absurd m (by simp)⟩
  | .bool b, _, x, _, _ => by
    cases x
    exact ⟨[], trivial, fun a m => absurd m (by simp)⟩
  | .int i, _, x, _, _ => by
    cases x
    exact ⟨[], trivial, fun a m => absurd m (by simp)⟩
  | .str s, _, x, _, _ => by
    cases x
    exact ⟨[], trivial, fun a m => absurd m (by simp)⟩
  | .bytes b, _, x, _, _ => by
    cases x
    exact ⟨[], trivial, fun a m => absurd m (by simp)⟩
  | .list ds, _, x, p, z => by
    obtain ⟨a, vs, rfl, ho, hall⟩ := well_list x
    have z2 : WData.weightAll ds ≤ 1048576 := z
    obtain ⟨A, h1, h2⟩ := area_all ds _ hall p fun d hd => Nat.le_trans (weight_mem hd) z2
    have k : ∀ b ∈ A, b ∈ a :: A := fun b hb => List.mem_cons_of_mem _ hb
    refine ⟨a :: A, List.mem_cons_self .., fun b hb => ?_⟩
    rcases List.mem_cons.mp hb with e | m
    · rw [e]
      exact ⟨vs, line_of (by rw [wellAll_len hall]; exact Nat.le_trans (PySem.W.length_le_weightAllW ds) z2), fun u hu => (h1 u hu).mono k, .inl ho⟩
    · exact (h2 b m).mono k
  | .tuple ds, _, x, p, z => by
    obtain ⟨a, vs, rfl, ho, hall⟩ := well_tuple x
    have z2 : WData.weightAll ds ≤ 1048576 := z
    obtain ⟨A, h1, h2⟩ := area_all ds _ hall p fun d hd => Nat.le_trans (weight_mem hd) z2
    have k : ∀ b ∈ A, b ∈ a :: A := fun b hb => List.mem_cons_of_mem _ hb
    refine ⟨a :: A, List.mem_cons_self .., fun b hb => ?_⟩
    rcases List.mem_cons.mp hb with e | m
    · rw [e]
      exact ⟨vs, line_of (by rw [wellAll_len hall]; exact Nat.le_trans (PySem.W.length_le_weightAllW ds) z2), fun u hu => (h1 u hu).mono k, .inr ho⟩
    · exact (h2 b m).mono k
  | .float _, _, _, p, _ => Bool.noConfusion (show false = true from p)
  | .dict _, _, _, p, _ => Bool.noConfusion (show false = true from p)
  | .bytearray _, _, _, p, _ => Bool.noConfusion (show false = true from p)
  | .set _, _, _, p, _ => Bool.noConfusion (show false = true from p)
  | .frozenset _, _, _, p, _ => Bool.noConfusion (show false = true from p)
  | .obj _ _, _, _, p, _ => Bool.noConfusion (show false = true from p)
theorem area_all : ∀ (ds : List WData) (vs : List Value), WellAll P h vs ds → plWs ds = true → (∀ d ∈ ds, d.weight ≤ 1048576) → ∃ A : List Addr, (∀ u ∈ vs, OkU A u) ∧ ∀ a ∈ A, ArgOb h A a
  | [], _, x, _, _ => by
    cases x
    exact ⟨[], fun u m => absurd m (by simp), fun a m => absurd m (by simp)⟩
  | d :: ds, _, x, p, z => by
    obtain ⟨v, vs, rfl, x1, x2⟩ := well_cons x
    have q : plW d = true ∧ plWs ds = true := Bool.and_eq_true_iff.mp p
    obtain ⟨A, a1, a2⟩ := area_one d v x1 q.1 (z d (List.mem_cons_self ..))
    obtain ⟨B, b1, b2⟩ := area_all ds vs x2 q.2 fun e he => z e (List.mem_cons_of_mem _ he)
    have kA : ∀ b ∈ A, b ∈ A ++ B := fun b hb => List.mem_append.mpr (.inl hb)
    have kB : ∀ b ∈ B, b ∈ A ++ B := fun b hb => List.mem_append.mpr (.inr hb)
    refine ⟨A ++ B, fun u hu => ?_, fun b hb => ?_⟩
    · rcases List.mem_cons.mp hu with e | m
      · rw [e]
        exact a1.mono kA
      · exact (b1 u m).mono kB
    · rcases List.mem_append.mp hb with m | m
      · exact (a2 b m).mono kA
      · exact (b2 b m).mono kB
end
end
def hoOf (o : Obj) : Option HO := match o.data with
  | .seq vs _ => if (o.cls == Value.type "list") = true then some (.frz o (.lst (vs.toList.map toV))) else some (.frz o (.tup (vs.toList.map toV)))
  | _ => none
def argH (K : PySem.W.Frag) (h : Heap) (A : List Addr) : Hp := fun b => if b ∈ A then (if (K.lookup b).isNone = true then (h.get? b).bind hoOf else none) else none
def OnlyF (H : Hp) : Prop := ∀ b, H b = none ∨ ∃ o u, H b = some (.frz o u)
theorem hoOf_lst (vs : List Value) : hoOf { cls := .type "list", data := .seq vs.toArray } = some (.frz { cls := .type "list", data := .seq vs.toArray } (.lst (vs.map toV))) := by
  show (if (Value.type "list" == Value.type "list") = true then some (HO.frz { cls := .type "list", data := .seq vs.toArray } (.lst (vs.toArray.toList.map toV))) else some (HO.frz { cls := .type "list", data := .seq vs.toArray } (.tup (vs.toArray.toList.map toV)))) = _
  rw [if_pos (beq_self_eq_true _)]
theorem hoOf_tup (vs : List Value) : hoOf { cls := .type "tuple", data := .seq vs.toArray } = some (.frz { cls := .type "tuple", data := .seq vs.toArray } (.tup (vs.map toV))) := by
  show (if (Value.type "tuple" == Value.type "list") = true then some (HO.frz { cls := .type "tuple", data := .seq vs.toArray } (.lst (vs.toArray.toList.map toV))) else some (HO.frz { cls := .type "tuple", data := .seq vs.toArray } (.tup (vs.toArray.toList.map toV)))) = _
  rw [if_neg (by decide)]
section
variable {P : Program} {w : World} {K : PySem.W.Frag} {h : Heap} {A : List Addr}
theorem argH_at {b : Addr} {o : Obj} (hb : b ∈ A) (hk : K.lookup b = none) (e : h.get? b = some o) : argH K h A b = hoOf o := by
  unfold argH
  rw [if_pos hb, hk, if_pos (show (none : Option Obj).isNone = true from rfl), e] <;> rfl
theorem of_argH {b : Addr} {u : HO} (q : argH K h A b = some u) : b ∈ A ∧ K.lookup b = none := by
  unfold argH at q
  by_cases hb : b ∈ A
  · rw [if_pos hb] at q
    cases hk : K.lookup b with
    | none => exact ⟨hb, rfl⟩
    | some o =>
      rw [hk, if_neg (by simp)] at q
      cases q
  · rw [if_neg hb] at q
    cases q
theorem argH_is (ar : ∀ a ∈ A, ArgOb h A a) {b : Addr} {u : HO} (q : argH K h A b = some u) : K.lookup b = none ∧ ∃ vs : List Value, vs.length ≤ sizeLine ∧ (∀ u ∈ vs, OkU A u) ∧
    ((h.get? b = some { cls := .type "list", data := .seq vs.toArray } ∧ u = .frz { cls := .type "list", data := .seq vs.toArray } (.lst (vs.map toV))) ∨
     (h.get? b = some { cls := .type "tuple", data := .seq vs.toArray } ∧ u = .frz { cls := .type "tuple", data := .seq vs.toArray } (.tup (vs.map toV)))) := by
  obtain ⟨hb, hk⟩ := of_argH q
  obtain ⟨vs, h1, h2, h3⟩ := ar b hb
  refine ⟨hk, vs, h1, h2, ?_⟩
  rcases h3 with e | e
  · rw [argH_at hb hk e, hoOf_lst] at q
    exact .inl ⟨e, (Option.some.inj q).symm⟩
  · rw [argH_at hb hk e, hoOf_tup] at q
    exact .inr ⟨e, (Option.some.inj q).symm⟩
theorem argH_only (ar : ∀ a ∈ A, ArgOb h A a) : OnlyF (argH K h A) := fun b => by
  cases q : argH K h A b with
  | none => exact .inl rfl
  | some u =>
    obtain ⟨_, vs, _, _, ⟨_, e⟩ | ⟨_, e⟩⟩ := argH_is ar q
    · exact .inr ⟨_, _, by rw [e]⟩
    · exact .inr ⟨_, _, by rw [e]⟩
theorem argH_ok (ar : ∀ a ∈ A, ArgOb h A a) : HOk P w (argH K h A) h := fun b u q => by
  obtain ⟨_, vs, h1, h2, ⟨e, rfl⟩ | ⟨e, rfl⟩⟩ := argH_is ar q
  · exact ⟨e, by rw [List.length_map]; exact h1, vs, _, vals_toV h2, e⟩
  · exact ⟨e, by rw [List.length_map]; exact h1, vs, vals_toV h2, _, e, rfl, _, rfl⟩
theorem seq_inj {c c' : Value} {vs us : List Value} (e : (some { cls := c, data := .seq vs.toArray } : Option Obj) = some { cls := c', data := .seq us.toArray }) : c = c' ∧ vs = us := by
  have e1 := Option.some.inj e
  have e2 : c = c' := congrArg Obj.cls e1
  have e3 : Data.seq vs.toArray = Data.seq us.toArray := congrArg Obj.data e1
  injection e3 with e4
  refine ⟨e2, ?_⟩
  have e5 := congrArg Array.toList e4
  simpa using e5
theorem argL (KX : K.In h) (ar : ∀ a ∈ A, ArgOb h A a) {a : Addr} {vs : List Value} (ha : a ∈ A) (e : h.get? a = some { cls := .type "list", data := .seq vs.toArray }) : (∀ u ∈ vs, OkU A u) ∧ SqL K (argH K h A) a (vs.map toV) := by
  obtain ⟨us, h1, h2, h3⟩ := ar a ha
  have hu : us = vs := by
    rcases h3 with q | q
    · rw [e] at q
      exact (seq_inj q).2.symm
    · rw [e] at q
      exact absurd (Value.type.inj (seq_inj q).1) (by decide)
  subst hu
  refine ⟨h2, ?_⟩
  cases hk : K.lookup a with
  | none => exact .inl (.inr ⟨_, by rw [argH_at ha hk e, hoOf_lst]⟩)
  | some o =>
    have e2 := KX a o hk
    rw [e] at e2
    obtain rfl := Option.some.inj e2
    exact .inr ⟨_, us.toArray, _, hk, rfl, rfl, rfl, by rw [List.size_toArray]; exact h1, by simpa using vals_toV h2⟩
theorem argT (KX : K.In h) (ar : ∀ a ∈ A, ArgOb h A a) {a : Addr} {vs : List Value} (ha : a ∈ A) (e : h.get? a = some { cls := .type "tuple", data := .seq vs.toArray }) : (∀ u ∈ vs, OkU A u) ∧ SqT K (argH K h A) a (vs.map toV) := by
  obtain ⟨us, h1, h2, h3⟩ := ar a ha
  have hu : us = vs := by
    rcases h3 with q | q
    · rw [e] at q
      exact absurd (Value.type.inj (seq_inj q).1) (by decide)
    · rw [e] at q
      exact (seq_inj q).2.symm
  subst hu
  refine ⟨h2, ?_⟩
  cases hk : K.lookup a with
  | none => exact .inl (.inr ⟨_, by rw [argH_at ha hk e, hoOf_tup]⟩)
  | some o =>
    have e2 := KX a o hk
    rw [e] at e2
    obtain rfl := Option.some.inj e2
    exact .inr ⟨_, us.toArray, _, hk, rfl, rfl, by rw [List.size_toArray]; exact h1, by simpa using vals_toV h2⟩
mutual
theorem dw_one {Pm : Params} (KX : K.In h) (ar : ∀ a ∈ A, ArgOb h A a) : ∀ (d : WData) (v : Value), Well Pm h v d → plW d = true → OkU A v → Dw K (argH K h A) (toV v) d
  | .none, _, x, _, _ => by
    cases x
    exact .non
  | .bool b, _, x, _, _ => by
    cases x
    exact .bl b
  | .int i, _, x, _, _ => by
    cases x
    exact .int i
  | .str s, _, x, _, _ => by
    cases x
    exact .str s
  | .bytes b, _, x, _, _ => by
    cases x
    have z := Dw.byt (K := K) (H := argH K h A) b.toArray
    exact z
  | .list ds, _, x, p, hu => by
    obtain ⟨a, vs, rfl, ho, hall⟩ := well_list x
    obtain ⟨h2, hs⟩ := argL KX ar hu ho
    exact .lst hs (dw_all KX ar ds _ hall p h2)
  | .tuple ds, _, x, p, hu => by
    obtain ⟨a, vs, rfl, ho, hall⟩ := well_tuple x
    obtain ⟨h2, hs⟩ := argT KX ar hu ho
    exact .tup hs (dw_all KX ar ds _ hall p h2)
  | .float _, _, _, p, _ => Bool.noConfusion (show false = true from p)
  | .dict _, _, _, p, _ => Bool.noConfusion (show false = true from p)
  | .bytearray _, _, _, p, _ => Bool.noConfusion (show false = true from p)
  | .set _, _, _, p, _ => Bool.noConfusion (show false = true from p)
  | .frozenset _, _, _, p, _ => Bool.noConfusion (show false = true from p)
  | .obj _ _, _, _, p, _ => Bool.noConfusion (show false = true from p)
theorem dw_all {Pm : Params} (KX : K.In h) (ar : ∀ a ∈ A, ArgOb h A a) : ∀ (ds : List WData) (vs : List Value), WellAll Pm h vs ds → plWs ds = true → (∀ u ∈ vs, OkU A u) → DwAll K (argH K h A) (vs.map toV) ds
  | [], _, x, _, _ => by
    cases x
    exact .nil
  | d :: ds, _, x, p, hu => by
    obtain ⟨v, vs, rfl, x1, x2⟩ := well_cons x
    have q : plW d = true ∧ plWs ds = true := Bool.and_eq_true_iff.mp p
    exact .cons (dw_one KX ar d v x1 q.1 (hu _ (List.mem_cons_self ..))) (dw_all KX ar ds vs x2 q.2 fun u m => hu u (List.mem_cons_of_mem _ m))
end
end
theorem spec_call {P : Program} {w : World} {K : PySem.W.Frag} {mg mb : Str → Option Value} {CX : CXT} {k : Nat} {fa : Addr} {fd : FuncData} {ps : List Str} {sp : Sp} {s₁ : Shared} {vals : List Value} {ds : List WData} {R : PySem.W.WRecords} {cl : Str → Option Addr} {d0 : WData}
    (KX : K.In s₁.heap) (hns : s₁.heap.Ns mainGlobals mg) (hb : s₁.heap.Ns builtinsNs mb) (hbb : ∀ x : Str, x ≠ "__name__" → mb x = bootBuiltins x) (hlim : s₁.heap.NoLimit) (hg : s₁.gens = #[])
    (hwl : WellAll w.params s₁.heap vals ds) (hpl : plWs ds = true) (hwt : ∀ d ∈ ds, d.weight ≤ 1048576) (hr : Room k callerA)
    (F : ∀ base : Heap, K.In base → base.Ns mainGlobals mg → FnOk P w K mg base CX k fa fd ps sp) (hbind : ∀ (s : Shared) (us : List Value), us.length = ps.length → BindsTo s fd ⟨us, []⟩ (ps.zip us)) (hlen : ds.length = ps.length)
    (hsp : ∀ (H : Hp) (xs : List V), OnlyF H → DwAll K H xs ds → sp xs H (fun v H' => Dw K H' v d0) fun _ _ _ => False)
    (hCX : ∀ H e s', CX [] H s₁ (fun _ _ _ => False) e s' → False) :
    codeAny (model P w) callerA (.call (.ref fa) ⟨vals, []⟩) (fun r s' => ∃ u as, r = .ok (.ret u) ∧ ReadsW R cl s'.heap u d0 as ∧ OldK s₁.heap s'.heap ∧ s'.os = s₁.os ∧ AllBare s'.gens) s₁ := by
  obtain ⟨A, ho, ar⟩ := area_all ds vals hwl hpl hwt
  have hO : OnlyF (argH K s₁.heap A) := argH_only ar
  have hok : HOk P w (argH K s₁.heap A) s₁.heap := argH_ok ar
  have hS := dw_all KX ar ds vals hwl hpl ho
  have hV := vals_toV ho
  have hK : ∀ b u, argH K s₁.heap A b = some u → K.lookup b = none := fun b u q => (argH_is ar q).1
  have noA : ∀ {b : Addr} {o : Obj} {es : Array DictEntry} {ep : Nat}, s₁.heap.get? b = some o → o.data = .dict es ep → argH K s₁.heap A b = none := fun {b o es ep} e d => by
    cases q : argH K s₁.heap A b with
    | none => rfl
    | some u =>
      obtain ⟨_, vs, _, _, ⟨e2, _⟩ | ⟨e2, _⟩⟩ := argH_is ar q
      · rw [e2] at e
        cases e
        have d' : Data.seq vs.toArray _ = Data.dict es ep := d
        cases d'
      · rw [e2] at e
        cases e
        have d' : Data.seq vs.toArray _ = Data.dict es ep := d
        cases d'
  generalize argH K s₁.heap A = H at hO hok hS hK noA
  have base_of : ∀ {b : Addr} {o : Obj}, s₁.heap.get? b = some o → H b = none → (hidT s₁.heap H).get? b = some o := fun e n => hidT_get e n
  have nsK : ∀ {b : Addr} {m : Str → Option Value}, s₁.heap.Ns b m → (hidT s₁.heap H).Ns b m := fun {b m} ⟨o, es, ep, e, d, r⟩ => ⟨o, es, ep, base_of e (noA e d), d, r⟩
  have nK : ∀ b o, K.lookup b = some o → H b = none := fun b o e => by
    cases q : H b with
    | none => rfl
    | some u =>
      rw [hK b u q] at e
      cases e
  have hKb : K.In (hidT s₁.heap H) := fun b o e => base_of (KX b o e) (nK b o e)
  have hM : Mod K mg (hidT s₁.heap H) := ⟨hKb, nsK hns, ⟨mb, nsK hb, hbb⟩, let ⟨mc, h1, h2⟩ := hlim; ⟨mc, nsK h1, h2⟩⟩
  have e0 : Env0 P w K mg (hidT s₁.heap H) callerA [] s₁ H := ⟨rfl, hM, fun b o e => of_hidT e, Nat.le_of_eq (hidT_size _ _), trivial, fun b hb => absurd (show b ∈ ([] : List Addr) from hb) (by simp), hok, .of_eq hg⟩
  have hl : vals.length = ps.length := by rw [wellAll_len hwl]; exact hlen
  refine codeAny_mono ((F _ hKb (nsK hns)).run callerA [] s₁ H ⟨vals, []⟩ vals (vals.map toV) _ _ hr e0 (hbind s₁ vals hl) hV (hsp H _ hO hS)) fun r s' x => ?_
  cases r with
  | error e => exact (hCX H e s' x).elim
  | ok fl =>
    cases fl with
    | next => exact False.elim x
    | brk => exact False.elim x
    | cont => exact False.elim x
    | ret u =>
      obtain ⟨v, H', os, bare, un, hok', r', q⟩ := x
      have kept : ∀ b o, s₁.heap.get? b = some o → s'.heap.get? b = some o := fun b o e => by
        cases q2 : H b with
        | none => exact un.keep b o e q2 (by intro z; exact absurd (show b ∈ ([] : List Addr) from z) (by simp)) (by simp)
        | some u2 =>
          rcases hO b with z | ⟨ob, u3, z⟩
          · rw [q2] at z
            cases z
          · have z2 := un.frzs b ob _ z
            obtain ⟨e1, _⟩ := hok b _ z
            obtain ⟨e2, _⟩ := hok' b _ z2
            rw [e] at e1
            cases e1
            exact e2
      have KX' : K.In s'.heap := fun b o e => kept b o (KX b o e)
      obtain ⟨as, hrd⟩ := Dw.reads (R := R) (cl := cl) hok' KX' d0 v u q r'
      exact ⟨u, as, rfl, hrd, OldK.of_keep kept, os, bare⟩
theorem layable_weight {ds : List WData} (h : WData.layableAll ds = true) : ∀ d ∈ ds, d.weight ≤ 1048576 := fun d hd =>
  (PySem.W.layableW_iff.mp (List.all_eq_true.mp h d hd)).2.2
theorem encAll_len : ∀ (cs : List Codec) (a : Codec.denoteAll cs), (Codec.encAll cs a).length = cs.length
  | [], _ => rfl
  | c :: cs, a => by
    show (Codec.encAll cs a.2).length + 1 = cs.length + 1
    rw [encAll_len cs a.2]
theorem walk_spec {r : OpenSpec} {k : Nat} {q : Program} {loose : List Str} {XP : (Str → Option Value) → Heap → Prop} {YP : World → Heap → Prop} {d : DefRec} {K : Params → PySem.W.Frag} {CX : World → CXT} {ps : List Str} {sp : World → Sp}
    (hwell : r.wellSaid = true) (hdf : d.params.defaults = []) (hlen : r.args.length = ps.length) (hr : Room k callerA)
    (hY : ∀ (w : World) (h : Heap), YP w h → (K w.params).In h)
    (F : ∀ (w : World) (mg : Str → Option Value) (fa : Addr) (h : Heap), YP w h → (K w.params).In h → h.Ns mainGlobals mg → mg d.name = some (.ref fa) →
      ∃ fd : FuncData, (∀ (s : Shared) (us : List Value), us.length = ps.length → BindsTo s fd ⟨us, []⟩ (ps.zip us)) ∧
        ∀ base : Heap, (K w.params).In base → base.Ns mainGlobals mg → FnOk r.prog w (K w.params) mg base (CX w) k fa fd ps (sp w))
    (hsp : ∀ (w : World) (H : Hp) (xs : List V) (a : Codec.denoteAll r.args), OnlyF H → Codec.withinAll r.args a = true → Codec.app r.args r.asked a = true → DwAll (K w.params) H xs (Codec.encAll r.args a) →
      sp w xs H (fun v H' => Dw (K w.params) H' v (r.ret.enc (Codec.app r.args r.f a))) fun _ _ _ => False)
    (hCX : ∀ (w : World) (H : Hp) (s : Shared) (e : Value) (s' : Shared), CX w [] H s (fun _ _ _ => False) e s' → False) :
    PySem.W.WalkOS q loose XP YP r d [] (fun f vs => PySem.call f vs) := by
  intro w s_0 s₁ mg mb G Y fa o pm cd doc dV kV ho hd hcd hD hmg hg args vals as hpre hlay hrd hwl hlo
  obtain ⟨a, e1, e2⟩ := PySem.W.os_pre_some hpre
  obtain ⟨e3, hwi⟩ := Codec.encAll_of_decAll r.args args a e1
  subst e3
  have KX := hY w _ Y
  obtain ⟨fd, hb, hF⟩ := F w mg fa _ Y KX G.T.g hmg
  refine PySem.W.enter_call (codeAny_mono (spec_call (R := []) (cl := classAt s_0.heap) (d0 := r.ret.enc (Codec.app r.args r.f a)) KX G.T.g G.T.b G.T.builtins G.T.nolimit hg hwl (pl_encAll _ _) (layable_weight hlay) hr hF hb (by rw [encAll_len]; exact hlen)
    (fun H xs hO hS => hsp w H xs a hO hwi e2 hS) fun H e s' => hCX w H s₁ e s') fun r' s' hq => ?_)
  obtain ⟨u, as', rfl, h1, h2, h3, h4⟩ := hq
  exact ⟨.inl ⟨u, _, as', rfl, fun _ => rfl, h1, (OpenSpec.post_iff hwell hwi _ _).mpr rfl, fun z => Bool.noConfusion (show false = true from z)⟩, h2, h3, h4⟩
theorem walk_specK {r : OpenSpec} {k : Nat} {q : Program} {loose : List Str} {XP : (Str → Option Value) → Heap → Prop} {YP : World → Heap → Prop} {d : DefRec} {K : Params → PySem.W.Frag} {CX : CXT} {ps : List Str} {sp : PySem.W.Frag → Sp}
    (hwell : r.wellSaid = true) (hdf : d.params.defaults = []) (hlen : r.args.length = ps.length) (hr : Room k callerA)
    (hY : ∀ (w : World) (h : Heap), YP w h → (K w.params).In h)
    (F : ∀ (w : World) (mg : Str → Option Value) (fa : Addr) (h : Heap), YP w h → (K w.params).In h → h.Ns mainGlobals mg → mg d.name = some (.ref fa) →
      ∃ fd : FuncData, (∀ (s : Shared) (us : List Value), us.length = ps.length → BindsTo s fd ⟨us, []⟩ (ps.zip us)) ∧
        ∀ base : Heap, (K w.params).In base → base.Ns mainGlobals mg → FnOk r.prog w (K w.params) mg base CX k fa fd ps (sp (K w.params)))
    (hsp : ∀ (K : PySem.W.Frag) (H : Hp) (xs : List V) (a : Codec.denoteAll r.args), OnlyF H → Codec.withinAll r.args a = true → Codec.app r.args r.asked a = true → DwAll K H xs (Codec.encAll r.args a) →
      sp K xs H (fun v H' => Dw K H' v (r.ret.enc (Codec.app r.args r.f a))) fun _ _ _ => False)
    (hCX : ∀ (H : Hp) (s : Shared) (e : Value) (s' : Shared), CX [] H s (fun _ _ _ => False) e s' → False) :
    PySem.W.WalkOS q loose XP YP r d [] (fun f vs => PySem.call f vs) :=
  walk_spec (K := K) (CX := fun _ => CX) (sp := fun w => sp (K w.params)) hwell hdf hlen hr hY F (fun w H xs a h1 h2 h3 h4 => hsp (K w.params) H xs a h1 h2 h3 h4) fun _ H s e s' => hCX H s e s'
end L2
-- rests on (row put in by the clerk, for the bench that shows a file only what it spells): KE.SpHead KE.OsShapes
end
end
section
namespace FM
open LwBits Coder
def valOk (ms : Models) (what of value : Nat) : Bool :=
  if what = 1 then decide (value < 2 ^ of) else (ms[of]?).any fun m => decide ((if what = 2 then (value + 1).log2 else value) < m.n)
theorem itemsOf_ok (ms : Models) (what of value : Nat) : (itemsOf ms what of value).isSome = (wantOk ms what of && valOk ms what of value) := by
  unfold itemsOf wantOk valOk
  by_cases h0 : what = 0
  · subst h0
    cases h : ms[of]? with
    | none => simp
    | some m => by_cases hv : value < m.n <;> simp [hv]
  · by_cases h1 : what = 1
    · subst h1
      by_cases a : 1 ≤ of <;> by_cases b : of ≤ BITS <;> by_cases c : value < 2 ^ of <;> simp [a, b, c]
    · by_cases h2 : what = 2
      · subst h2
        cases h : ms[of]? with
        | none => simp
        | some m => by_cases hv : m.n ≤ BITS <;> by_cases hc : (value + 1).log2 < m.n <;> simp [hv, hc]
      · simp [h0, h1, h2]
theorem pow_split {b : Nat} (h : 15 ≤ b) : 2 ^ b = 32768 * 2 ^ (b - 15) := by
  have e : b = 15 + (b - 15) := by omega
  rw [e, Nat.pow_add]
  simp
theorem plainParts_mod : ∀ (f b n : Nat), plainParts f b (n % 2 ^ b) = plainParts f b n
  | 0, _, _ => rfl
  | f + 1, b, n => by
    unfold plainParts
    by_cases h0 : b = 0
    · simp [h0]
    · by_cases h1 : b ≤ 15
      · simp [h0, h1]
      · have hp := pow_split (show 15 ≤ b by omega)
        have e1 : n % 2 ^ b % 32768 = n % 32768 := by
          rw [hp]
          exact Nat.mod_mul_right_mod n 32768 _
        have e2 : n % 2 ^ b / 32768 = n / 32768 % 2 ^ (b - 15) := by
          rw [hp]
          exact Nat.mod_mul_right_div_self n 32768 _
        rw [if_neg h0, if_neg h1, if_neg h0, if_neg h1, e1, e2, plainParts_mod f]
theorem plainParts_turn {f b : Nat} (n : Nat) (h0 : 0 < b) (hf : b ≤ 15 * (f + 1)) : plainParts (f + 1) b n = .plain (min b 15) (n % 2 ^ (min b 15)) :: plainParts f (b - min b 15) (n / 2 ^ (min b 15)) := by
  have hn : ¬ b = 0 := by omega
  by_cases h1 : b ≤ 15
  · have e : min b 15 = b := by omega
    rw [e]
    have e2 : plainParts f (b - b) (n / 2 ^ b) = [] := by
      cases f with
      | zero => rfl
      | succ f => unfold plainParts; simp
    rw [e2]
    conv => lhs; unfold plainParts
    simp [hn, h1]
  · have e : min b 15 = 15 := by omega
    rw [e]
    conv => lhs; unfold plainParts
    simp [hn, h1]
theorem plainParts_zero (f n : Nat) : plainParts f 0 n = [] := by
  cases f with
  | zero => rfl
  | succ f => unfold plainParts; simp
theorem plainParts_len : ∀ (f b n : Nat), (plainParts f b n).length ≤ f
  | 0, _, _ => Nat.le_refl _
  | f + 1, b, n => by
    unfold plainParts
    have := plainParts_len f (b - 15) (n / 32768)
    split
    · simp
    · split
      · simp
      · simp only [List.length_cons]; omega
def flat3 {α : Type} : List (α × α × α) → List α
  | [] => []
  | t :: r => t.1 :: t.2.1 :: t.2.2 :: flat3 r
theorem flat3_len {α : Type} : ∀ ts : List (α × α × α), (flat3 ts).length = 3 * ts.length
  | [] => rfl
  | t :: r => by simp only [flat3, List.length_cons, flat3_len r]; omega
theorem flat3_of {α : Type} : ∀ (n : Nat) (l : List α), l.length = 3 * n → ∃ ts, l = flat3 ts ∧ ts.length = n
  | 0, l, h => ⟨[], List.length_eq_zero_iff.mp (by simpa using h), rfl⟩
  | n + 1, a :: b :: c :: l, h => by
    obtain ⟨ts, e, hl⟩ := flat3_of n l (by simp only [List.length_cons] at h; omega)
    exact ⟨(a, b, c) :: ts, by rw [e]; rfl, by simp [hl]⟩
  | n + 1, [], h => by simp at h
  | n + 1, [a], h => by simp only [List.length_cons, List.length_nil] at h; omega
  | n + 1, [a, b], h => by simp only [List.length_cons, List.length_nil] at h; omega
theorem flat3_get {α : Type} : ∀ (ts : List (α × α × α)) (i : Nat) (t : α × α × α), ts[i]? = some t → (flat3 ts)[0 + 3 * i]? = some t.1 ∧ (flat3 ts)[1 + 3 * i]? = some t.2.1 ∧ (flat3 ts)[2 + 3 * i]? = some t.2.2
  | [], i, t, h => by simp at h
  | a :: r, 0, t, h => by
    have e : a = t := Option.some.inj h
    subst e
    exact ⟨rfl, rfl, rfl⟩
  | a :: r, i + 1, t, h => by
    obtain ⟨h1, h2, h3⟩ := flat3_get r i t h
    have e0 : 0 + 3 * (i + 1) = (0 + 3 * i) + 3 := by omega
    have e1 : 1 + 3 * (i + 1) = (1 + 3 * i) + 3 := by omega
    have e2 : 2 + 3 * (i + 1) = (2 + 3 * i) + 3 := by omega
    rw [e0, e1, e2]
    exact ⟨h1, h2, h3⟩
def itemsT (ms : Models) : List (Nat × Nat × Nat) → Option (List Item)
  | [] => some []
  | t :: r => (itemsOf ms t.1 t.2.1 t.2.2).bind fun a => (itemsT ms r).map fun l => a ++ l
theorem itemsIn_flat3 (ms : Models) : ∀ ts, itemsIn ms (flat3 ts) = itemsT ms ts
  | [] => rfl
  | t :: r => by
    show (itemsOf ms t.1 t.2.1 t.2.2).bind _ = _
    rw [itemsIn_flat3 ms r]
    rfl
theorem itemsIn_odd (ms : Models) : ∀ (n : Nat) (l : List Nat), l.length = n → ¬ n % 3 = 0 → itemsIn ms l = none := by
  intro n
  induction n using Nat.strongRecOn with
  | _ n ih =>
    intro l hl hn
    match l, hl with
    | [], hl => simp at hl; subst hl; simp at hn
    | [a], hl => rfl
    | [a, b], hl => rfl
    | a :: b :: c :: r, hl =>
      have hr : itemsIn ms r = none := ih (n - 3) (by simp at hl; omega) r (by simp at hl; omega) (by simp at hl; omega)
      show (itemsOf ms a b c).bind _ = none
      rw [hr]
      cases itemsOf ms a b c <;> rfl
theorem itemsT_ok (ms : Models) : ∀ ts, (itemsT ms ts).isSome = ts.all fun t => (itemsOf ms t.1 t.2.1 t.2.2).isSome
  | [] => rfl
  | t :: r => by
    have ih := itemsT_ok ms r
    unfold itemsT
    rw [List.all_cons, ← ih]
    cases itemsOf ms t.1 t.2.1 t.2.2 with
    | none => rfl
    | some a => cases itemsT ms r <;> rfl
def itemList (what of value : Nat) : List Item :=
  if what = 0 then [.sym of value] else if what = 1 then plainParts 8 of value else numberItems of value
theorem itemsOf_list {ms : Models} {what of value : Nat} (h : (itemsOf ms what of value).isSome = true) : itemsOf ms what of value = some (itemList what of value) := by
  unfold itemsOf at h ⊢
  unfold itemList
  by_cases h0 : what = 0
  · subst h0
    cases hm : ms[of]? with
    | none => simp [hm] at h
    | some m => by_cases hv : value < m.n <;> simp_all
  · by_cases h1 : what = 1
    · subst h1
      by_cases a : 1 ≤ of ∧ of ≤ BITS ∧ value < 2 ^ of <;> simp_all
    · by_cases h2 : what = 2
      · subst h2
        cases hm : ms[of]? with
        | none => simp [hm] at h
        | some m => by_cases hv : m.n ≤ BITS ∧ (value + 1).log2 < m.n <;> simp_all
      · simp [h0, h1, h2] at h
theorem itemsT_list {ms : Models} : ∀ {ts : List (Nat × Nat × Nat)}, (itemsT ms ts).isSome = true → itemsT ms ts = some (ts.flatMap fun t => itemList t.1 t.2.1 t.2.2)
  | [], _ => rfl
  | t :: r, h => by
    rw [itemsT_ok, List.all_cons, Bool.and_eq_true] at h
    have h2 : (itemsT ms r).isSome = true := by rw [itemsT_ok]; exact h.2
    unfold itemsT
    rw [itemsOf_list h.1, itemsT_list h2]
    rfl
end FM
end
section
namespace FM
open LwBits Coder
structure MOk (m : Model) : Prop where
  n2 : 2 ≤ m.n
  n64 : m.n ≤ 64
  s2 : 2 ≤ m.slow
  s9 : m.slow ≤ 9
  zero : m.begins.getD 0 0 = 0
  up : ∀ i, i + 1 < m.n → m.begins.getD i 0 < m.begins.getD (i + 1) 0
  last : m.begins.getD (m.n - 1) 0 < ALL
theorem even_n (n slow : Nat) : (even n slow).n = n := by simp [even, Model.n]
theorem even_get {n slow i : Nat} (h : i < n) : (even n slow).begins.getD i 0 = i * ALL / n := by
  simp [even, List.getD, h]
theorem even_ok {n slow : Nat} (h2 : 2 ≤ n) (h64 : n ≤ 64) (s2 : 2 ≤ slow) (s9 : slow ≤ 9) : MOk (even n slow) := by
  refine ⟨by rw [even_n]; exact h2, by rw [even_n]; exact h64, s2, s9, ?_, fun i hi => ?_, ?_⟩
  · rw [even_get (by omega)]; simp
  · rw [even_n] at hi
    rw [even_get (by omega), even_get hi]
    have e : (i + 1) * ALL = i * ALL + ALL := Nat.succ_mul i ALL
    rw [e]
    have h1 : (i * ALL + n) / n = i * ALL / n + 1 := Nat.add_div_right _ (by omega)
    have h2 : (i * ALL + n) / n ≤ (i * ALL + ALL) / n := Nat.div_le_div_right (by unfold ALL; omega)
    omega
  · rw [even_n, even_get (by omega)]
    refine (Nat.div_lt_iff_lt_mul (by omega)).mpr ?_
    unfold ALL
    omega
theorem MOk.le {m : Model} (h : MOk m) : ∀ (k i : Nat), i + k < m.n → m.begins.getD i 0 ≤ m.begins.getD (i + k) 0
  | 0, i, _ => Nat.le_refl _
  | k + 1, i, hk => Nat.le_trans (h.le k i (by omega)) (Nat.le_of_lt (h.up (i + k) (by omega)))
theorem MOk.lt {m : Model} (h : MOk m) {i : Nat} (hi : i < m.n) : m.begins.getD i 0 < ALL := by
  have h1 := h.le (m.n - 1 - i) i (by omega)
  have e : i + (m.n - 1 - i) = m.n - 1 := by omega
  rw [e] at h1
  exact Nat.lt_of_le_of_lt h1 h.last
theorem MOk.begin_lt {m : Model} (h : MOk m) {s : Nat} (hs : s < m.n) : m.begin_ s < m.begin_ (s + 1) := by
  unfold Model.begin_
  rw [if_pos hs]
  by_cases h1 : s + 1 < m.n
  · rw [if_pos h1]; exact h.up s h1
  · rw [if_neg h1]; exact h.lt hs
theorem MOk.begin_le {m : Model} (h : MOk m) (s : Nat) : m.begin_ s ≤ ALL := by
  unfold Model.begin_
  by_cases h1 : s < m.n
  · rw [if_pos h1]; exact Nat.le_of_lt (h.lt h1)
  · rw [if_neg h1]; exact Nat.le_refl _
theorem MOk.share_pos {m : Model} (h : MOk m) {s : Nat} (hs : s < m.n) : 0 < m.share s ∧ m.begin_ s + m.share s ≤ ALL := by
  have h1 := h.begin_lt hs
  have h2 := h.begin_le (s + 1)
  unfold Model.share
  omega
theorem saw_n (m : Model) (s : Nat) : (m.saw s).n = m.n := by simp [Model.saw, Model.n]
def sawT (m : Model) (s i : Nat) : Nat := if i ≤ s then i else ALL - (m.n - i)
def sawB (m : Model) (s i : Nat) : Nat := if i = 0 then 0 else (m.begins.getD i 0 * (2 ^ m.rate - 1) + sawT m s i) / 2 ^ m.rate
theorem saw_begins (m : Model) (s : Nat) : (m.saw s).begins = (List.range m.n).map (sawB m s) := rfl
theorem saw_get {m : Model} {s i : Nat} (h : i < m.n) : (m.saw s).begins.getD i 0 = sawB m s i := by
  rw [saw_begins]
  simp [List.getD, h]
theorem sawT_up {m : Model} (h : MOk m) (s i : Nat) (hi : i + 1 < m.n) : sawT m s i < sawT m s (i + 1) := by
  unfold sawT
  have := h.n64
  have : ALL = 32768 := rfl
  split <;> split <;> omega
theorem sawT_lt {m : Model} (h : MOk m) (s i : Nat) (hi : i < m.n) : sawT m s i < ALL := by
  unfold sawT
  have := h.n64
  have : ALL = 32768 := rfl
  split <;> omega
theorem div_gap {a b r : Nat} (hr : 0 < r) (h : a + r ≤ b) : a / r < b / r := by
  have h1 : (a + r) / r = a / r + 1 := Nat.add_div_right _ hr
  have h2 : (a + r) / r ≤ b / r := Nat.div_le_div_right h
  omega
theorem saw_ok {m : Model} (h : MOk m) (s : Nat) : MOk (m.saw s) := by
  have hr : 0 < 2 ^ m.rate := Nat.two_pow_pos _
  have n64 := h.n64
  have n2 := h.n2
  have hA : ALL = 32768 := rfl
  refine ⟨by rw [saw_n]; exact h.n2, by rw [saw_n]; exact h.n64, h.s2, h.s9, ?_, fun i hi => ?_, ?_⟩
  · rw [saw_get (by omega)]; rfl
  · rw [saw_n] at hi
    rw [saw_get (by omega), saw_get hi]
    have hT := sawT_up h s i hi
    have hu := h.up i hi
    by_cases h0 : i = 0
    · subst h0
      have e0 := h.zero
      have h1 : sawB m s 0 = 0 := rfl
      have h2 : sawB m s (0 + 1) = (m.begins.getD 1 0 * (2 ^ m.rate - 1) + sawT m s 1) / 2 ^ m.rate := rfl
      rw [h1, h2]
      refine Nat.div_pos ?_ hr
      have hb : 1 ≤ m.begins.getD 1 0 := by
        have : m.begins.getD (0 + 1) 0 = m.begins.getD 1 0 := rfl
        omega
      have hm : 1 * (2 ^ m.rate - 1) ≤ m.begins.getD 1 0 * (2 ^ m.rate - 1) := Nat.mul_le_mul_right _ hb
      have : 1 ≤ sawT m s 1 := by
        unfold sawT
        split <;> omega
      omega
    · unfold sawB
      rw [if_neg h0, if_neg (by omega)]
      refine div_gap hr ?_
      have hm : (m.begins.getD i 0 + 1) * (2 ^ m.rate - 1) ≤ m.begins.getD (i + 1) 0 * (2 ^ m.rate - 1) := Nat.mul_le_mul_right _ hu
      rw [Nat.succ_mul] at hm
      omega
  · rw [saw_n, saw_get (by omega)]
    unfold sawB
    rw [if_neg (by omega)]
    refine (Nat.div_lt_iff_lt_mul hr).mpr ?_
    have h1 := sawT_lt h s (m.n - 1) (by omega)
    have h2 := h.last
    have hm : m.begins.getD (m.n - 1) 0 * (2 ^ m.rate - 1) ≤ 32767 * (2 ^ m.rate - 1) := Nat.mul_le_mul_right _ (by omega)
    rw [hA] at h1 ⊢
    generalize 2 ^ m.rate = r at *
    omega
def MsOk (ms : Models) : Prop := ∀ m ∈ ms, MOk m
def flat2 {α : Type} : List (α × α) → List α
  | [] => []
  | t :: r => t.1 :: t.2 :: flat2 r
theorem flat2_len {α : Type} : ∀ ts : List (α × α), (flat2 ts).length = 2 * ts.length
  | [] => rfl
  | t :: r => by simp only [flat2, List.length_cons, flat2_len r]; omega
theorem flat2_of {α : Type} : ∀ (n : Nat) (l : List α), l.length = 2 * n → ∃ ts, l = flat2 ts ∧ ts.length = n
  | 0, l, h => ⟨[], List.length_eq_zero_iff.mp (by simpa using h), rfl⟩
  | n + 1, a :: b :: l, h => by
    obtain ⟨ts, e, hl⟩ := flat2_of n l (by simp only [List.length_cons] at h; omega)
    exact ⟨(a, b) :: ts, by rw [e]; rfl, by simp [hl]⟩
  | n + 1, [], h => by simp at h
  | n + 1, [a], h => by simp only [List.length_cons, List.length_nil] at h; omega
theorem flat2_get {α : Type} : ∀ (ts : List (α × α)) (i : Nat) (t : α × α), ts[i]? = some t → (flat2 ts)[0 + 2 * i]? = some t.1 ∧ (flat2 ts)[1 + 2 * i]? = some t.2
  | [], i, t, h => by simp at h
  | a :: r, 0, t, h => by
    have e : a = t := Option.some.inj h
    subst e
    exact ⟨rfl, rfl⟩
  | a :: r, i + 1, t, h => by
    obtain ⟨h1, h2⟩ := flat2_get r i t h
    have e0 : 0 + 2 * (i + 1) = (0 + 2 * i) + 2 := by omega
    have e1 : 1 + 2 * (i + 1) = (1 + 2 * i) + 2 := by omega
    rw [e0, e1]
    exact ⟨h1, h2⟩
def mfit (n s : Nat) : Bool := decide (2 ≤ n ∧ n ≤ SYMBOLS ∧ 2 ≤ s ∧ s ≤ 9)
theorem modelsIn_flat2 : ∀ ts : List (Nat × Nat), modelsIn (flat2 ts) = if (ts.all fun t => mfit t.1 t.2) = true then some (ts.map fun t => even t.1 t.2) else none
  | [] => rfl
  | t :: r => by
    show (if 2 ≤ t.1 ∧ t.1 ≤ SYMBOLS ∧ 2 ≤ t.2 ∧ t.2 ≤ 9 then (modelsIn (flat2 r)).map fun (l : Models) => even t.1 t.2 :: l else none) = _
    rw [modelsIn_flat2 r, List.all_cons]
    by_cases h : 2 ≤ t.1 ∧ t.1 ≤ SYMBOLS ∧ 2 ≤ t.2 ∧ t.2 ≤ 9
    · have e : mfit t.1 t.2 = true := decide_eq_true h
      rw [if_pos h, e, Bool.true_and]
      by_cases h2 : (r.all fun t => mfit t.1 t.2) = true
      · rw [if_pos h2, if_pos h2]; rfl
      · rw [if_neg h2, if_neg h2]; rfl
    · have e : mfit t.1 t.2 = false := decide_eq_false h
      rw [if_neg h, e, Bool.false_and, if_neg (by simp)]
theorem modelsIn_odd : ∀ (n : Nat) (l : List Nat), l.length = n → n % 2 = 1 → modelsIn l = none := by
  intro n
  induction n using Nat.strongRecOn with
  | _ n ih =>
    intro l hl hn
    match l, hl with
    | [], hl => simp at hl; subst hl; simp at hn
    | [a], hl => rfl
    | a :: b :: r, hl =>
      have hr : modelsIn r = none := ih (n - 2) (by simp at hl; omega) r (by simp at hl; omega) (by simp at hl; omega)
      show (if _ then (modelsIn r).map _ else none) = none
      rw [hr]
      split <;> rfl
def msOk (l : List Nat) : Bool := decide (l ≠ [] ∧ l.length ≤ 2 * MODELS) && (modelsIn l).isSome
theorem modelsOk_eq (n : Nat) (l : List Nat) : modelsOk n l = if (lanesOk n && msOk l) = true then modelsIn l else none := by
  unfold modelsOk msOk
  by_cases h1 : lanesOk n = true
  · by_cases h2 : l ≠ [] ∧ l.length ≤ 2 * MODELS
    · rw [if_pos ⟨h1, h2⟩, h1, decide_eq_true h2]
      cases h : modelsIn l <;> simp
    · rw [if_neg (fun z => h2 z.2), decide_eq_false h2]
      simp
  · rw [if_neg (fun z => h1 z.1)]
    simp [h1]
theorem modelsIn_ok {l : List Nat} {ms : Models} (h : modelsIn l = some ms) : MsOk ms := by
  by_cases h2 : l.length % 2 = 1
  · rw [modelsIn_odd _ l rfl h2] at h; cases h
  · obtain ⟨ts, rfl, _⟩ := flat2_of (l.length / 2) l (by omega)
    rw [modelsIn_flat2] at h
    split at h
    · next ha =>
      cases h
      intro m hm
      obtain ⟨t, ht, rfl⟩ := List.mem_map.mp hm
      rw [List.all_eq_true] at ha
      have := of_decide_eq_true (ha t ht)
      unfold SYMBOLS at this
      exact even_ok this.1 this.2.1 this.2.2.1 this.2.2.2
    · cases h
theorem sawItem_ok {ms : Models} (h : MsOk ms) (it : Item) : MsOk (sawItem ms it) := by
  cases it with
  | plain b n => exact h
  | sym k s =>
    intro m hm
    show MOk m
    have hm : m ∈ ms.modify k fun (x : Model) => x.saw s := hm
    obtain ⟨j, hj⟩ := List.getElem?_of_mem hm
    rw [List.getElem?_modify] at hj
    cases e : ms[j]? with
    | none => rw [e] at hj; cases hj
    | some x =>
      rw [e] at hj
      have hx := h x (List.mem_of_getElem? e)
      have hj : some (if k = j then x.saw s else x) = some m := hj
      by_cases hk : k = j
      · rw [if_pos hk] at hj
        cases hj
        exact saw_ok hx s
      · rw [if_neg hk] at hj
        cases hj
        exact hx
theorem sawAll_ok : ∀ {l : List Item} {ms : Models}, MsOk ms → MsOk (sawAll ms l)
  | [], _, h => h
  | it :: r, ms, h => sawAll_ok (l := r) (sawItem_ok h it)
end FM
end
section
namespace FM
open LwBits Coder
theorem le_nat : ∀ (w n : Nat), (le w n).map (fun c : UInt8 => c.toNat) = (List.range w).map fun k => n / 2 ^ (8 * k) % 256
  | 0, n => rfl
  | w + 1, n => by
    have h := le_nat w (n / 256)
    show (UInt8.ofNat (n % 256)).toNat :: (le w (n / 256)).map _ = _
    rw [h, List.range_succ_eq_map, List.map_cons, List.map_map]
    congr 1
    · rw [UInt8.toNat_ofNat']; simp
    · refine List.map_congr_left fun k _ => ?_
      show n / 256 / 2 ^ (8 * k) % 256 = n / 2 ^ (8 * (k + 1)) % 256
      rw [Nat.div_div_eq_div_mul]
      have e : 2 ^ (8 * (k + 1)) = 256 * 2 ^ (8 * k) := by rw [Nat.mul_add, Nat.pow_add]; omega
      rw [e]
def fromN (l : List Nat) : Nat := l.foldr (fun c n => c + 256 * n) 0
theorem ofLe_nat (b : Bytes) : ofLe b = fromN (b.map fun c : UInt8 => c.toNat) := by
  unfold ofLe fromN
  rw [List.foldr_map]
def bytesN (b : Bytes) : List Nat := b.map fun c : UInt8 => c.toNat
def numsN (l : List Nat) (z k : Nat) : List Nat := (List.range k).map fun i => fromN ((l.drop (z * i)).take z)
theorem pairs_nat : ∀ (k : Nat) (b : Bytes), b.length = 2 * k → pairs b = numsN (bytesN b) 2 k
  | 0, [], _ => rfl
  | 0, _ :: _, h => by simp at h
  | k + 1, [], h => by simp at h
  | k + 1, [_], h => by simp at h; omega
  | k + 1, a :: b :: r, h => by
    have hr : r.length = 2 * k := by simp at h; omega
    show (a.toNat + 256 * b.toNat) :: pairs r = _
    rw [pairs_nat k r hr]
    unfold numsN
    rw [List.range_succ_eq_map, List.map_cons, List.map_map]
    congr 1
theorem states_nat (n : Nat) (b : Bytes) : ((List.range n).map fun i => ofLe ((b.drop (4 * i)).take 4)) = numsN (bytesN b) 4 n := by
  unfold numsN bytesN
  refine List.map_congr_left fun i _ => ?_
  rw [ofLe_nat, List.map_take, List.map_drop]
theorem bytesN_of {l : List Nat} (h : ∀ x ∈ l, x ≤ 255) : bytesN (l.map UInt8.ofNat) = l := by
  unfold bytesN
  rw [List.map_map]
  conv => rhs; rw [← List.map_id l]
  refine List.map_congr_left fun x hx => ?_
  show (UInt8.ofNat x).toNat = x
  rw [UInt8.toNat_ofNat']
  exact Nat.mod_eq_of_lt (by have := h x hx; omega)
def goOn (n : Nat) (p : Models × List Item) (it : Item) : Models × List Item := if p.2.length + 1 = n then (sawAll p.1 (p.2 ++ [it]), []) else (p.1, p.2 ++ [it])
def goAll (n : Nat) (p : Models × List Item) (l : List Item) : Models × List Item := l.foldl (goOn n) p
theorem goAll_snoc (n : Nat) (p : Models × List Item) (l : List Item) (it : Item) : goAll n p (l ++ [it]) = goOn n (goAll n p l) it := by
  unfold goAll; rw [List.foldl_append]; rfl
theorem goOn_lt {n : Nat} {p : Models × List Item} (h : p.2.length < n) (it : Item) : (goOn n p it).2.length < n := by
  unfold goOn
  split
  · show 0 < n; omega
  · show (p.2 ++ [it]).length < n; simp; omega
theorem goOn_ok {n : Nat} {p : Models × List Item} (h : MsOk p.1) (it : Item) : MsOk (goOn n p it).1 := by
  unfold goOn
  split
  · exact sawAll_ok h
  · exact h
theorem goAll_ok {n : Nat} : ∀ {l : List Item} {p : Models × List Item}, MsOk p.1 → MsOk (goAll n p l).1
  | [], _, h => h
  | it :: l, p, h => goAll_ok (l := l) (goOn_ok h it)
theorem sawAll_app (ms : Models) (a b : List Item) : sawAll ms (a ++ b) = sawAll (sawAll ms a) b := List.foldl_append
theorem goAll_now {n : Nat} (h0 : 0 < n) (ms : Models) : ∀ (k : Nat) (l : List Item), l.length = k → goAll n (ms, []) l = (modelsNow n ms l, l.drop (l.length / n * n))
  | 0, l, h => by
    have e : l = [] := List.eq_nil_of_length_eq_zero h
    subst e
    unfold goAll modelsNow
    simp [sawAll]
  | k + 1, l, h => by
    obtain ⟨l', it, rfl⟩ : ∃ l' it, l = l' ++ [it] := ⟨l.dropLast, l.getLast (fun z => by subst z; simp at h), (List.dropLast_concat_getLast _).symm⟩
    have hl : l'.length = k := by simpa using h
    rw [goAll_snoc, goAll_now h0 ms k l' hl]
    have hm := Nat.div_add_mod l'.length n
    have hlt := Nat.mod_lt l'.length h0
    have hc : l'.length / n * n = n * (l'.length / n) := Nat.mul_comm _ _
    have hd : (l'.drop (l'.length / n * n)).length = l'.length % n := by rw [List.length_drop]; omega
    unfold goOn modelsNow
    dsimp only
    rw [hd, List.length_append, List.length_singleton]
    by_cases hn : l'.length % n + 1 = n
    · rw [if_pos hn]
      have e : (l'.length + 1) / n = l'.length / n + 1 := by
        have : l'.length + 1 = n * (l'.length / n + 1) := by rw [Nat.mul_add]; omega
        rw [this, Nat.mul_div_cancel_left _ h0]
      have e2 : (l'.length + 1) / n * n = l'.length + 1 := by rw [e, Nat.add_mul]; omega
      rw [e2]
      have e3 : (l' ++ [it]).length = l'.length + 1 := by simp
      rw [← e3, List.take_length, List.drop_length, ← sawAll_app, ← List.append_assoc, List.take_append_drop]
    · rw [if_neg hn]
      have e : (l'.length + 1) / n = l'.length / n := by
        have h1 : l'.length + 1 = (l'.length % n + 1) + n * (l'.length / n) := by omega
        rw [h1, Nat.add_mul_div_left _ _ h0, Nat.div_eq_of_lt (by omega), Nat.zero_add]
      rw [e]
      have hle : l'.length / n * n ≤ l'.length := by omega
      rw [List.take_append_of_le_length hle, List.drop_append_of_le_length hle]
theorem sharesIn_snoc {n : Nat} (h0 : 0 < n) (it : Item) : ∀ (k f g : Nat) (ms : Models) (l : List Item), l.length ≤ k → l.length + 1 < f → l.length < g →
    sharesIn n f ms (l ++ [it]) = sharesIn n g ms l ++ [it.share (modelsNow n ms l)]
  | k, 0, _, _, _, _, h, _ => by omega
  | k, f + 1, 0, _, _, _, _, h => by omega
  | k, f + 1, g + 1, ms, l, hk, hf, hg => by
    have ne : l ++ [it] ≠ [] := by simp
    by_cases hl : l.length < n
    · have e0 : modelsNow n ms l = ms := by
        unfold modelsNow
        rw [Nat.div_eq_of_lt hl, Nat.zero_mul]; rfl
      rw [e0]
      have e1 : (l ++ [it]).take n = l ++ [it] := List.take_of_length_le (by simp; omega)
      have e2 : (l ++ [it]).drop n = [] := List.drop_eq_nil_of_le (by simp; omega)
      have e3 : ∀ f ms, sharesIn n f ms [] = [] := fun f ms => by cases f <;> simp [sharesIn]
      unfold sharesIn
      rw [if_neg ne, e1, e2, e3]
      by_cases hz : l = []
      · subst hz; simp
      · rw [if_neg hz, List.take_of_length_le (by omega), List.drop_eq_nil_of_le (by omega), e3]
        simp
    · have hz : l ≠ [] := fun z => by subst z; simp at hl; omega
      obtain ⟨k', rfl⟩ : ∃ k', k = k' + 1 := ⟨k - 1, by omega⟩
      unfold sharesIn
      rw [if_neg ne, if_neg hz, List.take_append_of_le_length (by omega), List.drop_append_of_le_length (by omega)]
      have hd : (l.drop n).length = l.length - n := List.length_drop
      rw [sharesIn_snoc h0 it k' f g (sawAll ms (l.take n)) (l.drop n) (by omega) (by omega) (by omega), List.append_assoc]
      congr 4
      unfold modelsNow
      rw [← sawAll_app]
      congr 1
      have e : l.length / n = (l.length - n) / n + 1 := by
        have h1 : l.length = (l.length - n) + n := by omega
        conv => lhs; rw [h1]
        rw [Nat.add_div_right _ h0]
      rw [hd, e, Nat.add_mul, Nat.one_mul, Nat.add_comm _ n, List.take_add]
theorem shares_snoc {n : Nat} (h0 : 0 < n) (ms : Models) (l : List Item) (it : Item) : shares n ms (l ++ [it]) = shares n ms l ++ [it.share (modelsNow n ms l)] :=
  sharesIn_snoc h0 it l.length _ _ ms l (Nat.le_refl _) (by simp) (by simp)
theorem shares_len {n : Nat} (h0 : 0 < n) (ms : Models) : ∀ (k : Nat) (l : List Item), l.length = k → (shares n ms l).length = l.length
  | 0, l, h => by
    have e : l = [] := List.eq_nil_of_length_eq_zero h
    subst e; rfl
  | k + 1, l, h => by
    obtain ⟨l', it, rfl⟩ : ∃ l' it, l = l' ++ [it] := ⟨l.dropLast, l.getLast (fun z => by subst z; simp at h), (List.dropLast_concat_getLast _).symm⟩
    have hl : l'.length = k := by simpa using h
    rw [shares_snoc h0, List.length_append, shares_len h0 ms k l' hl]; simp
def adv (r : Reader) (it : Item) (y : Nat) (ws : List Nat) : Reader := { r with states := r.states.set r.group.length y, words := ws, models := (goOn r.lanes (r.models, r.group) it).1, group := (goOn r.lanes (r.models, r.group) it).2 }
def gotY (r : Reader) (w : Want) : Nat :=
  pop (r.states.getD r.group.length 0) ((w.item r.models (r.states.getD r.group.length 0 % ALL)).share r.models).1 ((w.item r.models (r.states.getD r.group.length 0 % ALL)).share r.models).2
def gotI (r : Reader) (w : Want) : Item := w.item r.models (r.states.getD r.group.length 0 % ALL)
theorem next_eq (r : Reader) (w : Want) : r.next w = if LOW ≤ gotY r w then some (gotI r w, adv r (gotI r w) (gotY r w) r.words) else match r.words with
    | [] => none
    | u :: t => some (gotI r w, adv r (gotI r w) (gotY r w * 65536 + u) t) := by
  have key : ∀ (it : Item) (y : Nat) (ws : List Nat), ({ r with states := r.states.set r.group.length y, words := ws, models := if (r.group ++ [it]).length = r.lanes then sawAll r.models (r.group ++ [it]) else r.models, group := if (r.group ++ [it]).length = r.lanes then [] else r.group ++ [it] } : Reader) = adv r it y ws := by
    intro it y ws
    unfold adv goOn
    dsimp only
    rw [List.length_append, List.length_singleton]
    split <;> rfl
  unfold Reader.next
  dsimp only
  simp only [key]
  rfl
theorem filter_cnt {k : Nat} : ∀ (l : List Nat) (c : Nat), (∀ i, i < l.length → (l.getD i 0 ≤ k ↔ i < c)) → c ≤ l.length → (l.filter fun b => decide (b ≤ k)).length = c
  | [], c, _, h => by simp at h; simp [h]
  | x :: l, 0, h, _ => by
    have h0 := h 0 (by simp)
    have hx : ¬ x ≤ k := fun z => absurd (h0.mp z) (by omega)
    rw [List.filter_cons_of_neg (by simpa using hx)]
    exact filter_cnt l 0 (fun i hi => by
      have := h (i + 1) (by simp; omega)
      have e : (x :: l).getD (i + 1) 0 = l.getD i 0 := rfl
      rw [e] at this
      constructor
      · intro z; have := this.mp z; omega
      · intro z; omega) (by omega)
  | x :: l, c + 1, h, hc => by
    have h0 := h 0 (by simp)
    have hx : x ≤ k := h0.mpr (by omega)
    rw [List.filter_cons_of_pos (by simpa using hx), List.length_cons]
    congr 1
    exact filter_cnt l c (fun i hi => by
      have := h (i + 1) (by simp; omega)
      have e : (x :: l).getD (i + 1) 0 = l.getD i 0 := rfl
      rw [e] at this
      constructor
      · intro z; have := this.mp z; omega
      · intro z; exact this.mpr (by omega)) (by simp at hc; omega)
theorem at_eq {m : Model} (h : MOk m) {s k : Nat} (hs : s < m.n) (h1 : m.begins.getD s 0 ≤ k) (h2 : s + 1 < m.n → k < m.begins.getD (s + 1) 0) : m.at_ k = s := by
  unfold Model.at_
  have e := filter_cnt (k := k) m.begins (s + 1) (fun i hi => by
    constructor
    · intro z
      by_cases c : i < s + 1
      · exact c
      · exfalso
        have hi' : i < m.n := hi
        have h3 := h2 (by omega)
        have h4 := h.le (i - (s + 1)) (s + 1) (by omega)
        have e : s + 1 + (i - (s + 1)) = i := by omega
        rw [e] at h4
        omega
    · intro z
      have h4 := h.le (s - i) i (by omega)
      have e : i + (s - i) = s := by omega
      rw [e] at h4
      omega) hs
  rw [e]; rfl
end FM
end
section
namespace FM
open LwBits Coder
def isSym : Item → Bool
  | .sym _ _ => true
  | .plain _ _ => false
def symsOf (g : List Item) : List Item := g.filter isSym
theorem symsOf_app (a b : List Item) : symsOf (a ++ b) = symsOf a ++ symsOf b := List.filter_append ..
theorem sawAll_syms : ∀ (g : List Item) (ms : Models), sawAll ms (symsOf g) = sawAll ms g
  | [], _ => rfl
  | .sym m s :: g, ms => by
    have e : symsOf (.sym m s :: g) = .sym m s :: symsOf g := rfl
    rw [e]
    exact sawAll_syms g (sawItem ms (.sym m s))
  | .plain b n :: g, ms => by
    have e : symsOf (.plain b n :: g) = symsOf g := rfl
    rw [e]
    exact sawAll_syms g ms
def shp (ms : Models) : List Nat := ms.map Model.n
theorem sawItem_shp (ms : Models) (it : Item) : shp (sawItem ms it) = shp ms := by
  cases it with
  | plain b n => rfl
  | sym m s =>
    unfold shp sawItem
    refine List.ext_getElem? fun j => ?_
    rw [List.getElem?_map, List.getElem?_map, List.getElem?_modify]
    by_cases h : m = j
    · subst h
      cases e : ms[m]? with
      | none => simp
      | some x => simp [saw_n]
    · cases e : ms[j]? with
      | none => simp
      | some x => simp [h]
theorem sawAll_shp : ∀ (l : List Item) (ms : Models), shp (sawAll ms l) = shp ms
  | [], _ => rfl
  | it :: l, ms => by
    show shp (sawAll (sawItem ms it) l) = _
    rw [sawAll_shp l, sawItem_shp]
theorem goOn_shp (n : Nat) (p : Models × List Item) (it : Item) : shp (goOn n p it).1 = shp p.1 := by
  unfold goOn
  split
  · exact sawAll_shp _ _
  · rfl
theorem goAll_shp (n : Nat) : ∀ (l : List Item) (p : Models × List Item), shp (goAll n p l).1 = shp p.1
  | [], _ => rfl
  | it :: l, p => (goAll_shp n l (goOn n p it)).trans (goOn_shp n p it)
def ItOk (sh : List Nat) : Item → Prop
  | .sym m s => ∃ n, sh[m]? = some n ∧ s < n
  | .plain b n => 1 ≤ b ∧ b ≤ 15 ∧ n < 2 ^ b
theorem shp_get {ms : Models} {m n : Nat} (h : (shp ms)[m]? = some n) : ∃ x, ms[m]? = some x ∧ x.n = n := by
  unfold shp at h
  rw [List.getElem?_map] at h
  cases e : ms[m]? with
  | none => rw [e] at h; cases h
  | some x => rw [e] at h; exact ⟨x, rfl, Option.some.inj h⟩
theorem get_shp {ms : Models} {m : Nat} {x : Model} (h : ms[m]? = some x) : (shp ms)[m]? = some x.n := by
  unfold shp
  rw [List.getElem?_map, h]; rfl
theorem share_ok {ms : Models} (h : MsOk ms) {it : Item} (hi : ItOk (shp ms) it) : 0 < (it.share ms).2 ∧ (it.share ms).2 ≤ 32768 := by
  cases it with
  | sym m s =>
    obtain ⟨n, e, hs⟩ := hi
    obtain ⟨x, e2, rfl⟩ := shp_get e
    have q := (h x (List.mem_of_getElem? e2)).share_pos hs
    have e3 : (Item.sym m s).share ms = (x.begin_ s, x.share s) := by
      show (match ms[m]? with | some x => (x.begin_ s, x.share s) | none => (0, ALL)) = _
      rw [e2]
    rw [e3]
    have : ALL = 32768 := rfl
    exact ⟨q.1, by show x.share s ≤ 32768; omega⟩
  | plain b n =>
    show 0 < 2 ^ (15 - b) ∧ 2 ^ (15 - b) ≤ 32768
    exact ⟨Nat.two_pow_pos _, Nat.pow_le_pow_right (n := 2) (i := 15 - b) (j := 15) (by decide) (by omega)⟩
theorem shares_ok {n : Nat} (h0 : 0 < n) {ms : Models} (h : MsOk ms) : ∀ (k : Nat) (l : List Item), l.length = k → (∀ it ∈ l, ItOk (shp ms) it) → ∀ x ∈ shares n ms l, 0 < x.2 ∧ x.2 ≤ 32768
  | 0, l, hl, _ => by
    have e : l = [] := List.eq_nil_of_length_eq_zero hl
    subst e
    intro x hx
    have : shares n ms [] = [] := rfl
    rw [this] at hx; cases hx
  | k + 1, l, hl, hi => by
    obtain ⟨l', it, rfl⟩ : ∃ l' it, l = l' ++ [it] := ⟨l.dropLast, l.getLast (fun z => by subst z; simp at hl), (List.dropLast_concat_getLast _).symm⟩
    rw [shares_snoc h0]
    intro x hx
    rcases List.mem_append.mp hx with z | z
    · exact shares_ok h0 h k l' (by simpa using hl) (fun it' h' => hi it' (List.mem_append_left _ h')) x z
    · have z : x = it.share (modelsNow n ms l') := by simpa using z
      rw [z]
      refine share_ok (sawAll_ok h) ?_
      rw [sawAll_shp]
      exact hi it (by simp)
theorem plainParts_ok (sh : List Nat) : ∀ (f b n : Nat), b ≤ 15 * f → ∀ it ∈ plainParts f b n, ItOk sh it
  | 0, b, n, h => by intro it hi; cases hi
  | f + 1, b, n, h => by
    unfold plainParts
    by_cases h0 : b = 0
    · rw [if_pos h0]; intro it hi; cases hi
    · rw [if_neg h0]
      by_cases h15 : b ≤ 15
      · rw [if_pos h15]
        intro it hi
        have e : it = .plain b (n % 2 ^ b) := by simpa using hi
        subst e
        exact ⟨by omega, h15, Nat.mod_lt _ (Nat.two_pow_pos _)⟩
      · rw [if_neg h15]
        intro it hi
        rcases List.mem_cons.mp hi with e | e
        · subst e
          exact ⟨by omega, by omega, Nat.mod_lt _ (by decide)⟩
        · exact plainParts_ok sh f (b - 15) (n / 32768) (by omega) it e
theorem itemsOf_ok2 {ms : Models} {w o v : Nat} {l : List Item} (h : itemsOf ms w o v = some l) : ∀ it ∈ l, ItOk (shp ms) it := by
  unfold itemsOf at h
  by_cases h0 : w = 0
  · rw [if_pos h0] at h
    cases e : ms[o]? with
    | none => rw [e] at h; cases h
    | some m =>
      rw [e] at h
      dsimp only at h
      by_cases hv : v < m.n
      · rw [if_pos hv] at h
        cases h
        intro it hi
        have e' : it = .sym o v := by simpa using hi
        subst e'
        exact ⟨m.n, get_shp e, hv⟩
      · rw [if_neg hv] at h; cases h
  · rw [if_neg h0] at h
    by_cases h1 : w = 1
    · rw [if_pos h1] at h
      by_cases hb : 1 ≤ o ∧ o ≤ BITS ∧ v < 2 ^ o
      · rw [if_pos hb] at h
        cases h
        exact plainParts_ok _ 8 o v (by have := hb.2.1; unfold BITS at this; omega)
      · rw [if_neg hb] at h; cases h
    · rw [if_neg h1] at h
      by_cases h2 : w = 2
      · rw [if_pos h2] at h
        cases e : ms[o]? with
        | none => rw [e] at h; cases h
        | some m =>
          rw [e] at h
          dsimp only at h
          by_cases hb : m.n ≤ BITS ∧ (v + 1).log2 < m.n
          · rw [if_pos hb] at h
            cases h
            unfold numberItems
            intro it hi
            rcases List.mem_cons.mp hi with e' | e'
            · subst e'; exact ⟨m.n, get_shp e, hb.2⟩
            · exact plainParts_ok _ 8 _ _ (by have := hb.1; have := hb.2; unfold BITS at *; omega) it e'
          · rw [if_neg hb] at h; cases h
      · rw [if_neg h2] at h; cases h
theorem itemsIn_ok2 {ms : Models} : ∀ (k : Nat) (l : List Nat) (its : List Item), l.length ≤ k → itemsIn ms l = some its → ∀ it ∈ its, ItOk (shp ms) it := by
  intro k
  induction k using Nat.strongRecOn with
  | _ k ih =>
    intro l its hk h
    match l, h with
    | [], h => cases h; intro it hi; cases hi
    | [_], h => cases h
    | [_, _], h => cases h
    | w :: o :: v :: r, h =>
      unfold itemsIn at h
      cases e : itemsOf ms w o v with
      | none => rw [e] at h; cases h
      | some a =>
        rw [e] at h
        cases e2 : itemsIn ms r with
        | none => rw [e2] at h; cases h
        | some l2 =>
          rw [e2] at h
          cases h
          intro it hi
          rcases List.mem_append.mp hi with z | z
          · exact itemsOf_ok2 e it z
          · exact ih (k - 1) (by simp at hk; omega) r l2 (by simp at hk; omega) e2 it z
theorem modelsNow_shp (n : Nat) (ms : Models) (l : List Item) : shp (modelsNow n ms l) = shp ms := sawAll_shp _ _
theorem itemsOf_shp {a b : Models} (h : shp a = shp b) (w o v : Nat) : itemsOf a w o v = itemsOf b w o v := by
  have q : ∀ o : Nat, (a[o]?).map Model.n = (b[o]?).map Model.n := fun o => by
    have := congrArg (fun l => l[o]?) h
    simpa [shp] using this
  have q := q o
  unfold itemsOf
  cases e : a[o]? with
  | none =>
    rw [e] at q
    cases e2 : b[o]? with
    | none => rfl
    | some y => rw [e2] at q; cases q
  | some x =>
    rw [e] at q
    cases e2 : b[o]? with
    | none => rw [e2] at q; cases q
    | some y =>
      rw [e2] at q
      have q : x.n = y.n := Option.some.inj q
      dsimp only
      rw [q]
theorem itemsIn_shp {a b : Models} (h : shp a = shp b) : ∀ (k : Nat) (l : List Nat), l.length ≤ k → itemsIn a l = itemsIn b l := by
  intro k
  induction k using Nat.strongRecOn with
  | _ k ih =>
    intro l hk
    match l with
    | [] => rfl
    | [_] => rfl
    | [_, _] => rfl
    | w :: o :: v :: r =>
      unfold itemsIn
      rw [itemsOf_shp h, ih (k - 1) (by simp at hk; omega) r (by simp at hk; omega)]
end FM
end
section
namespace FM
open LwBits Coder
theorem wantsIn_flat2 (ms : Models) : ∀ ts : List (Nat × Nat), wantsIn ms (flat2 ts) = if (ts.all fun t => wantOk ms t.1 t.2) = true then some ts else none
  | [] => rfl
  | t :: r => by
    show (if wantOk ms t.1 t.2 = true then (wantsIn ms (flat2 r)).map fun (l : List (Nat × Nat)) => (t.1, t.2) :: l else none) = _
    rw [wantsIn_flat2 ms r, List.all_cons]
    by_cases h : wantOk ms t.1 t.2 = true
    · rw [if_pos h, h, Bool.true_and]
      by_cases h2 : (r.all fun t => wantOk ms t.1 t.2) = true
      · rw [if_pos h2, if_pos h2]; rfl
      · rw [if_neg h2, if_neg h2]; rfl
    · have e : wantOk ms t.1 t.2 = false := by simpa using h
      rw [if_neg h, e, Bool.false_and, if_neg (by simp)]
theorem wantsIn_odd (ms : Models) : ∀ (n : Nat) (l : List Nat), l.length = n → n % 2 = 1 → wantsIn ms l = none := by
  intro n
  induction n using Nat.strongRecOn with
  | _ n ih =>
    intro l hl hn
    match l, hl with
    | [], hl => simp at hl; subst hl; simp at hn
    | [a], hl => rfl
    | a :: b :: r, hl =>
      have hr : wantsIn ms r = none := ih (n - 2) (by simp at hl; omega) r (by simp at hl; omega) (by simp at hl; omega)
      show (if _ then (wantsIn ms r).map _ else none) = none
      rw [hr]
      split <;> rfl
theorem MOk.find {m : Model} (h : MOk m) (k : Nat) : ∀ (d j : Nat), j + d + 1 = m.n → m.begins.getD j 0 ≤ k → ∃ s, s < m.n ∧ m.begins.getD s 0 ≤ k ∧ (s + 1 < m.n → k < m.begins.getD (s + 1) 0)
  | 0, j, hj, hk => ⟨j, by omega, hk, fun z => by omega⟩
  | d + 1, j, hj, hk => by
    by_cases h1 : m.begins.getD (j + 1) 0 ≤ k
    · exact MOk.find h k d (j + 1) (by omega) h1
    · exact ⟨j, by omega, hk, fun _ => by omega⟩
theorem at_spec {m : Model} (h : MOk m) (k : Nat) : m.at_ k < m.n ∧ m.begin_ (m.at_ k) ≤ k := by
  have n2 := h.n2
  obtain ⟨s, h1, h2, h3⟩ := h.find k (m.n - 1) 0 (by omega) (by rw [h.zero]; omega)
  have e := at_eq h h1 h2 h3
  rw [e]
  refine ⟨h1, ?_⟩
  unfold Model.begin_
  rw [if_pos h1]
  exact h2
def WOk (ms : Models) : Want → Prop
  | .sym m => m < ms.length
  | .plain b => 1 ≤ b ∧ b ≤ 15
theorem gotI_ok {r : Reader} (h : MsOk r.models) {w : Want} (hw : WOk r.models w) : ItOk (shp r.models) (gotI r w) ∧ ((gotI r w).share r.models).1 ≤ r.states.getD r.group.length 0 % ALL := by
  unfold gotI
  cases w with
  | sym m =>
    have hm : m < r.models.length := hw
    have e := List.getElem?_eq_getElem hm
    have q := at_spec (h _ (List.getElem_mem hm)) (r.states.getD r.group.length 0 % ALL)
    have e1 : (Want.sym m).item r.models (r.states.getD r.group.length 0 % ALL) = .sym m (r.models[m].at_ (r.states.getD r.group.length 0 % ALL)) := by
      show Item.sym m (match r.models[m]? with | some x => x.at_ _ | none => 0) = _
      rw [e]
    rw [e1]
    refine ⟨⟨_, get_shp e, q.1⟩, ?_⟩
    show (match r.models[m]? with | some x => (x.begin_ _, x.share _) | none => (0, ALL)).1 ≤ _
    rw [e]
    exact q.2
  | plain b =>
    obtain ⟨h1, h2⟩ := hw
    have hA : ALL = 32768 := rfl
    have hlt : r.states.getD r.group.length 0 % ALL < 2 ^ 15 := Nat.mod_lt _ (by decide)
    refine ⟨⟨h1, h2, ?_⟩, ?_⟩
    · have e : 2 ^ 15 = 2 ^ b * 2 ^ (15 - b) := by rw [← Nat.pow_add]; congr 1; omega
      rw [e] at hlt
      exact (Nat.div_lt_iff_lt_mul (Nat.two_pow_pos _)).mpr hlt
    · show _ / 2 ^ (15 - b) * 2 ^ (15 - b) ≤ _
      exact Nat.div_mul_le_self _ _
theorem goOn_len {n : Nat} {p : Models × List Item} (h : p.2.length < n) (it : Item) : (goOn n p it).2.length = (p.2.length + 1) % n := by
  unfold goOn
  by_cases e : p.2.length + 1 = n
  · rw [if_pos e, e, Nat.mod_self]; rfl
  · rw [if_neg e, Nat.mod_eq_of_lt (by omega)]
    show (p.2 ++ [it]).length = _
    simp
theorem goAll_len {n : Nat} : ∀ (l : List Item) (p : Models × List Item), p.2.length < n → (goAll n p l).2.length = (p.2.length + l.length) % n
  | [], p, h => by show p.2.length = _; rw [List.length_nil, Nat.add_zero, Nat.mod_eq_of_lt h]
  | it :: l, p, h => by
    show (goAll n (goOn n p it) l).2.length = _
    rw [goAll_len l _ (goOn_lt h it), goOn_len h, List.length_cons, Nat.mod_add_mod]
    congr 1
    omega
theorem plainRead_zero (f : Nat) (r : Reader) : plainRead f 0 r = some (0, r) := by cases f <;> rfl
theorem plainRead_turn {f bits : Nat} (r : Reader) (h : 0 < bits) : plainRead (f + 1) bits r = (r.next (.plain (min 15 bits))).bind fun x => (plainRead f (bits - min 15 bits) x.2).map fun y => (valueOf x.1 + 2 ^ (min 15 bits) * y.1, y.2) := by
  show (if bits = 0 then some (0, r) else _) = _
  rw [if_neg (by omega)]
end FM
end
section
namespace FM
open LwBits Coder
theorem next_shp {r r' : Reader} {w : Want} {it : Item} (h : r.next w = some (it, r')) : shp r'.models = shp r.models := by
  rw [next_eq] at h
  split at h
  · cases h; exact goOn_shp _ _ _
  · cases hw : r.words with
    | nil => rw [hw] at h; cases h
    | cons u t => rw [hw] at h; cases h; exact goOn_shp _ _ _
theorem plainRead_shp : ∀ (f b : Nat) (r : Reader) (v : Nat) (r' : Reader), plainRead f b r = some (v, r') → shp r'.models = shp r.models
  | 0, b, r, v, r', h => by cases h; rfl
  | f + 1, b, r, v, r', h => by
    by_cases h0 : b = 0
    · subst h0; rw [plainRead_zero] at h; cases h; rfl
    · rw [plainRead_turn r (by omega)] at h
      cases e : r.next (.plain (min 15 b)) with
      | none => rw [e] at h; cases h
      | some x =>
        rw [e] at h
        obtain ⟨it, r2⟩ := x
        have h : ((plainRead f (b - min 15 b) r2).map fun y => (valueOf it + 2 ^ (min 15 b) * y.1, y.2)) = some (v, r') := h
        cases e2 : plainRead f (b - min 15 b) r2 with
        | none => rw [e2] at h; cases h
        | some y =>
          rw [e2] at h
          obtain ⟨y1, y2⟩ := y
          cases h
          exact (plainRead_shp f _ r2 y1 y2 e2).trans (next_shp e)
theorem readOne_shp {r r' : Reader} {w o v : Nat} (h : readOne r w o = some (v, r')) : shp r'.models = shp r.models := by
  unfold readOne at h
  by_cases h0 : w = 0
  · rw [if_pos h0] at h
    cases e : r.next (.sym o) with
    | none => rw [e] at h; cases h
    | some x =>
      rw [e] at h
      obtain ⟨it, r2⟩ := x
      cases h
      exact next_shp e
  · rw [if_neg h0] at h
    by_cases h1 : w = 1
    · rw [if_pos h1] at h
      exact plainRead_shp 8 o r v r' h
    · rw [if_neg h1] at h
      cases e : r.next (.sym o) with
      | none => rw [e] at h; cases h
      | some x =>
        rw [e] at h
        obtain ⟨it, r2⟩ := x
        have h : ((plainRead 8 (valueOf it) r2).map fun y => (2 ^ valueOf it + y.1 - 1, y.2)) = some (v, r') := h
        cases e2 : plainRead 8 (valueOf it) r2 with
        | none => rw [e2] at h; cases h
        | some y =>
          rw [e2] at h
          obtain ⟨y1, y2⟩ := y
          cases h
          exact (plainRead_shp 8 _ r2 y1 y2 e2).trans (next_shp e)
theorem wantOk_shp {a b : Models} (h : shp a = shp b) (w o : Nat) : wantOk a w o = wantOk b w o := by
  have q : (a[o]?).map Model.n = (b[o]?).map Model.n := by
    have := congrArg (fun l => l[o]?) h
    simpa [shp] using this
  unfold wantOk
  cases e : a[o]? with
  | none =>
    rw [e] at q
    cases e2 : b[o]? with
    | none => rfl
    | some y => rw [e2] at q; cases q
  | some x =>
    rw [e] at q
    cases e2 : b[o]? with
    | none => rw [e2] at q; cases q
    | some y =>
      rw [e2] at q
      have q : x.n = y.n := Option.some.inj q
      simp [q]
end FM
end
section
namespace FM
open LwBits Coder
abbrev intL (l : List Nat) : List Int := l.map fun (n : Nat) => (n : Int)
def RowIn (ns : List Nat) (pl : Nat) (l : List Nat) (pl' : Nat) : Prop := ∃ z, ns[pl]? = some z ∧ pl + 1 + z ≤ ns.length ∧ l = (ns.drop (pl + 1)).take z ∧ pl' = pl + 1 + z
def CallAt (ns : List Nat) (pl : Nat) (x : Call) (pl' : Nat) : Prop := match x with
  | .begin_ n l => ns[pl]? = some 0 ∧ ns[pl + 1]? = some n ∧ RowIn ns (pl + 2) l pl'
  | .put l => ns[pl]? = some 1 ∧ RowIn ns (pl + 1) l pl' ∧ l.length ≤ 5000
  | .end_ => ns[pl]? = some 2 ∧ pl' = pl + 1
  | .open_ n l b => ns[pl]? = some 3 ∧ ns[pl + 1]? = some n ∧ ∃ m os, RowIn ns (pl + 2) l m ∧ RowIn ns m os pl' ∧ b = os.map UInt8.ofNat ∧ (∀ x ∈ os, x ≤ 255) ∧ os.length ≤ 5000
  | .get l => ns[pl]? = some 4 ∧ RowIn ns (pl + 1) l pl' ∧ l.length ≤ 5000
  | .done => ns[pl]? = some 5 ∧ pl' = pl + 1
  | .model k => ns[pl]? = some 6 ∧ ns[pl + 1]? = some k ∧ pl' = pl + 2
theorem drop_cons {ns : List Nat} {pl x : Nat} {r : List Nat} (h : ns.drop pl = x :: r) : ns[pl]? = some x ∧ ns.drop (pl + 1) = r ∧ pl < ns.length := by
  have hlt : pl < ns.length := by
    by_cases z : pl < ns.length
    · exact z
    · rw [List.drop_eq_nil_of_le (by omega)] at h; cases h
  rw [List.drop_eq_getElem_cons hlt] at h
  injection h with h1 h2
  exact ⟨by rw [List.getElem?_eq_getElem hlt, h1], h2, hlt⟩
theorem row_in {ns : List Nat} {pl : Nat} {x s : List Int} (h : PyFlat.row (intL (ns.drop pl)) = some (x, s)) : ∃ l pl', RowIn ns pl l pl' ∧ x = intL l ∧ s = intL (ns.drop pl') := by
  cases e : ns.drop pl with
  | nil => rw [e] at h; cases h
  | cons z r =>
    obtain ⟨h1, h2, h3⟩ := drop_cons e
    rw [e] at h
    have h : (if (0 : Int) ≤ (z : Int) ∧ (z : Int).toNat ≤ (intL r).length then some ((intL r).take (z : Int).toNat, (intL r).drop (z : Int).toNat) else none) = some (x, s) := h
    rw [Int.toNat_natCast] at h
    by_cases hc : (0 : Int) ≤ (z : Int) ∧ z ≤ (intL r).length
    · rw [if_pos hc] at h
      cases h
      have hl := hc.2
      rw [List.length_map, ← h2, List.length_drop] at hl
      refine ⟨(ns.drop (pl + 1)).take z, pl + 1 + z, ⟨z, h1, by omega, rfl, rfl⟩, ?_, ?_⟩
      · rw [h2, intL, ← List.map_take]
      · rw [← h2, intL, ← List.map_drop, List.drop_drop]
    · rw [if_neg hc] at h; cases h
theorem nats_ints (l : List Nat) : CoderNeutral.nats (intL l) = l := by
  unfold CoderNeutral.nats
  rw [List.map_map]
  conv => rhs; rw [← List.map_id l]
  exact List.map_congr_left fun x _ => rfl
theorem long_len {l : List Nat} {n : Nat} {lo hi : Int} (h : CoderNeutral.long (intL l) n lo hi = true) : l.length ≤ n ∧ ∀ x ∈ l, (x : Int) ≤ hi := by
  unfold CoderNeutral.long at h
  rw [Bool.and_eq_true, List.all_eq_true] at h
  refine ⟨by have := of_decide_eq_true h.1; simpa using this, fun x hx => ?_⟩
  have := h.2 (x : Int) (List.mem_map.mpr ⟨x, hx, rfl⟩)
  rw [Bool.and_eq_true] at this
  exact of_decide_eq_true this.2
theorem whole_id (c : List (List Int)) : PyWrlnte.whole c = c := by
  unfold PyWrlnte.whole
  split <;> rfl
theorem rows1 {r : List Int} {xs : List (List Int)} {t : List Int} (h : PyFlat.rows 1 r = some (xs, t)) : ∃ x, PyFlat.row r = some (x, t) ∧ xs = [x] := by
  unfold PyFlat.rows at h
  cases e : PyFlat.row r with
  | none => rw [e] at h; cases h
  | some y =>
    obtain ⟨x, s⟩ := y
    rw [e] at h
    have h : some ([x], s) = some (xs, t) := h
    cases h
    exact ⟨x, rfl, rfl⟩
theorem rows2 {r : List Int} {xs : List (List Int)} {t : List Int} (h : PyFlat.rows 2 r = some (xs, t)) : ∃ x y s, PyFlat.row r = some (x, s) ∧ PyFlat.row s = some (y, t) ∧ xs = [x, y] := by
  unfold PyFlat.rows at h
  cases e : PyFlat.row r with
  | none => rw [e] at h; cases h
  | some y =>
    obtain ⟨x, s⟩ := y
    rw [e] at h
    dsimp only at h
    cases e2 : PyFlat.rows 1 s with
    | none => rw [e2] at h; cases h
    | some z =>
      obtain ⟨ys, t2⟩ := z
      rw [e2] at h
      have h : some (x :: ys, t2) = some (xs, t) := h
      cases h
      obtain ⟨y, h1, h2⟩ := rows1 e2
      exact ⟨x, y, s, rfl, h1, by rw [h2]⟩
theorem call_at {ns : List Nat} {pl : Nat} {c : List (List Int)} {t : List Int} (h : PyFlat.call PyWrlnte.shape (intL (ns.drop pl)) = some (c, t)) (ha : CoderNeutral.asked1 c = true) :
    ∃ x pl', CoderNeutral.callOf c = some x ∧ CallAt ns pl x pl' ∧ t = intL (ns.drop pl') ∧ pl < pl' ∧ pl < ns.length := by
  cases e : ns.drop pl with
  | nil => rw [e] at h; cases h
  | cons p r =>
    obtain ⟨h1, h2, h3⟩ := drop_cons e
    rw [e] at h
    have h : (match PyWrlnte.shape (p : Int) with
      | none => none
      | some (n, k) => if (intL r).length < n then none else match PyFlat.rows k ((intL r).drop n) with
        | none => none
        | some (xs, t) => some (((p : Int) :: (intL r).take n) :: xs, t)) = some (c, t) := h
    by_cases p0 : p = 0
    · subst p0
      have h : (if (intL r).length < 1 then none else match PyFlat.rows 1 ((intL r).drop 1) with
        | none => none
        | some (xs, t) => some (((0 : Int) :: (intL r).take 1) :: xs, t)) = some (c, t) := h
      cases r with
      | nil => cases h
      | cons a r2 =>
        obtain ⟨g1, g2, g3⟩ := drop_cons h2
        have h : (match PyFlat.rows 1 (intL r2) with
          | none => none
          | some (xs, t) => some ([(0 : Int), (a : Int)] :: xs, t)) = some (c, t) := h
        cases er : PyFlat.rows 1 (intL r2) with
        | none => rw [er] at h; cases h
        | some y =>
          obtain ⟨xs, t2⟩ := y
          rw [er] at h
          cases h
          obtain ⟨x, hx, rfl⟩ := rows1 er
          rw [← g2] at hx
          obtain ⟨l, pl', hrow, rfl, rfl⟩ := row_in hx
          have hlt : pl < pl' := by obtain ⟨z, _, _, _, ez⟩ := hrow; omega
          exact ⟨.begin_ a l, pl', by show some (Call.begin_ a (CoderNeutral.nats (intL l))) = _; rw [nats_ints], ⟨h1, g1, hrow⟩, rfl, hlt, h3⟩
    by_cases p1 : p = 1
    · subst p1
      have h : (match PyFlat.rows 1 (intL r) with
        | none => none
        | some (xs, t) => some ([(1 : Int)] :: xs, t)) = some (c, t) := h
      cases er : PyFlat.rows 1 (intL r) with
      | none => rw [er] at h; cases h
      | some y =>
        obtain ⟨xs, t2⟩ := y
        rw [er] at h
        cases h
        obtain ⟨x, hx, rfl⟩ := rows1 er
        rw [← h2] at hx
        obtain ⟨l, pl', hrow, rfl, rfl⟩ := row_in hx
        have hlt : pl < pl' := by obtain ⟨z, _, _, _, ez⟩ := hrow; omega
        have ha : CoderNeutral.long (intL l) 5000 0 9007199254740991 = true := ha
        exact ⟨.put l, pl', by show some (Call.put (CoderNeutral.nats (intL l))) = _; rw [nats_ints], ⟨h1, hrow, (long_len ha).1⟩, rfl, hlt, h3⟩
    by_cases p2 : p = 2
    · subst p2
      have h : some ([[(2 : Int)]], intL r) = some (c, t) := h
      cases h
      exact ⟨.end_, pl + 1, rfl, ⟨h1, rfl⟩, by rw [h2], by omega, h3⟩
    by_cases p3 : p = 3
    · subst p3
      have h : (if (intL r).length < 1 then none else match PyFlat.rows 2 ((intL r).drop 1) with
        | none => none
        | some (xs, t) => some (((3 : Int) :: (intL r).take 1) :: xs, t)) = some (c, t) := h
      cases r with
      | nil => cases h
      | cons a r2 =>
        obtain ⟨g1, g2, g3⟩ := drop_cons h2
        have h : (match PyFlat.rows 2 (intL r2) with
          | none => none
          | some (xs, t) => some ([(3 : Int), (a : Int)] :: xs, t)) = some (c, t) := h
        cases er : PyFlat.rows 2 (intL r2) with
        | none => rw [er] at h; cases h
        | some y =>
          obtain ⟨xs, t2⟩ := y
          rw [er] at h
          cases h
          obtain ⟨x, y, s2, hx, hy, rfl⟩ := rows2 er
          rw [← g2] at hx
          obtain ⟨l, m, hrow, rfl, rfl⟩ := row_in hx
          obtain ⟨os, pl', hrow2, rfl, rfl⟩ := row_in hy
          have ha : (CoderNeutral.natural (a : Int) 53 && (CoderNeutral.long (intL l) 5000 0 9007199254740991 && CoderNeutral.long (intL os) 5000 0 255)) = true := ha
          rw [Bool.and_eq_true, Bool.and_eq_true] at ha
          obtain ⟨hl, hb⟩ := long_len ha.2.2
          have hlt : pl < pl' := by
            obtain ⟨z, _, _, _, ez⟩ := hrow
            obtain ⟨z2, _, _, _, ez2⟩ := hrow2
            omega
          have hby : NeutralIO.bytes (intL os) = true := by
            unfold NeutralIO.bytes
            rw [List.all_eq_true]
            intro v hv
            obtain ⟨o, ho, rfl⟩ := List.mem_map.mp hv
            rw [Bool.and_eq_true]
            exact ⟨decide_eq_true (by omega), decide_eq_true (hb o ho)⟩
          refine ⟨.open_ a l (os.map UInt8.ofNat), pl', ?_, ⟨h1, g1, m, os, hrow, hrow2, rfl, fun v hv => by have := hb v hv; omega, hl⟩, rfl, hlt, h3⟩
          show (if NeutralIO.bytes (intL os) = true then some (Call.open_ a (CoderNeutral.nats (intL l)) ((intL os).map fun (x : Int) => UInt8.ofNat x.toNat)) else none) = _
          rw [if_pos hby, nats_ints, List.map_map]
          rfl
    by_cases p4 : p = 4
    · subst p4
      have h : (match PyFlat.rows 1 (intL r) with
        | none => none
        | some (xs, t) => some ([(4 : Int)] :: xs, t)) = some (c, t) := h
      cases er : PyFlat.rows 1 (intL r) with
      | none => rw [er] at h; cases h
      | some y =>
        obtain ⟨xs, t2⟩ := y
        rw [er] at h
        cases h
        obtain ⟨x, hx, rfl⟩ := rows1 er
        rw [← h2] at hx
        obtain ⟨l, pl', hrow, rfl, rfl⟩ := row_in hx
        have hlt : pl < pl' := by obtain ⟨z, _, _, _, ez⟩ := hrow; omega
        have ha : CoderNeutral.long (intL l) 5000 0 9007199254740991 = true := ha
        exact ⟨.get l, pl', by show some (Call.get (CoderNeutral.nats (intL l))) = _; rw [nats_ints], ⟨h1, hrow, (long_len ha).1⟩, rfl, hlt, h3⟩
    by_cases p5 : p = 5
    · subst p5
      have h : some ([[(5 : Int)]], intL r) = some (c, t) := h
      cases h
      exact ⟨.done, pl + 1, rfl, ⟨h1, rfl⟩, by rw [h2], by omega, h3⟩
    by_cases p6 : p = 6
    · subst p6
      cases r with
      | nil => cases h
      | cons a r2 =>
        obtain ⟨g1, g2, g3⟩ := drop_cons h2
        have h : some ([[(6 : Int), (a : Int)]], intL r2) = some (c, t) := h
        cases h
        exact ⟨.model a, pl + 2, rfl, ⟨h1, g1, rfl⟩, by rw [← g2], by omega, h3⟩
    · have e0 : PyWrlnte.shape (p : Int) = none := by
        unfold PyWrlnte.shape
        rw [if_neg (by omega), if_neg (by omega), if_neg (by omega), if_neg (by omega), if_neg (by omega), if_neg (by omega), if_neg (by omega)]
      rw [e0] at h
      cases h
end FM
end
section
namespace FB
open PySem PySem.Spec PyProof.Rows L2
def top (i : Nat) : Stmt := PySem.Challenge.pw_foretoldbits_s01_answers.main.body.getD i (.Pass ⟨0, 0, 0, 0⟩)
abbrev s_kind_fits : Stmt := top 7
abbrev s_number_class : Stmt := top 8
abbrev s_value_fits : Stmt := top 9
abbrev s_item_fits : Stmt := top 10
abbrev s_items_fit : Stmt := top 11
abbrev s_kinds_fit : Stmt := top 12
abbrev s_bit_pieces : Stmt := top 13
abbrev s_item_pieces : Stmt := top 14
abbrev s_all_pieces : Stmt := top 15
abbrev s_Model___init__ : Stmt := inClass (top 24) 0
abbrev s_Model_share : Stmt := inClass (top 24) 1
abbrev s_Model_symbol_at : Stmt := inClass (top 24) 2
abbrev s_Model_rate : Stmt := inClass (top 24) 3
abbrev s_Model_see : Stmt := inClass (top 24) 4
abbrev s_model_fits : Stmt := top 25
abbrev s_models_fit : Stmt := top 26
abbrev s_new_models : Stmt := top 27
abbrev s_coded : Stmt := top 35
abbrev s_taken_out : Stmt := top 36
abbrev s_is_full : Stmt := top 37
abbrev s_row_bytes : Stmt := top 38
abbrev s_low_first : Stmt := top 39
abbrev s_from_low_first : Stmt := top 40
abbrev s_numbers_of_size : Stmt := top 41
abbrev s_states_in : Stmt := top 42
abbrev s_words_in : Stmt := top 43
abbrev s_fault_place : Stmt := top 44
abbrev s_Row___init__ : Stmt := inClass (top 46) 0
abbrev s_Row_piece_share : Stmt := inClass (top 46) 1
abbrev s_Row_go_by : Stmt := inClass (top 46) 2
abbrev s_Row_end_group : Stmt := inClass (top 46) 3
abbrev s_Writer___init__ : Stmt := inClass (top 47) 0
abbrev s_Writer_write : Stmt := inClass (top 47) 1
abbrev s_Writer_row_coded : Stmt := inClass (top 47) 2
abbrev s_Reader___init__ : Stmt := inClass (top 50) 0
abbrev s_Reader_read : Stmt := inClass (top 50) 1
abbrev s_Reader_read_whole : Stmt := inClass (top 50) 2
abbrev s_Reader_is_at_end : Stmt := inClass (top 50) 3
abbrev s_Attempt___init__ : Stmt := inClass (top 51) 0
abbrev s_Attempt_read_item : Stmt := inClass (top 51) 1
abbrev s_Attempt_read_symbol : Stmt := inClass (top 51) 2
abbrev s_Attempt_read_bits : Stmt := inClass (top 51) 3
abbrev s_Attempt_lane : Stmt := inClass (top 51) 4
abbrev s_Attempt_spot : Stmt := inClass (top 51) 5
abbrev s_Attempt_take_out : Stmt := inClass (top 51) 6
abbrev s_Attempt_take_word : Stmt := inClass (top 51) 7
abbrev s_Coder___init__ : Stmt := inClass (top 72) 0
abbrev s_Coder_begin : Stmt := inClass (top 72) 1
abbrev s_Coder_put : Stmt := inClass (top 72) 2
abbrev s_Coder_end : Stmt := inClass (top 72) 3
abbrev s_Coder_open_row : Stmt := inClass (top 72) 4
abbrev s_Coder_get : Stmt := inClass (top 72) 5
abbrev s_Coder_done : Stmt := inClass (top 72) 6
abbrev s_Coder_model : Stmt := inClass (top 72) 7
abbrev s_Coder_models_now : Stmt := inClass (top 72) 8
abbrev s_told_list : Stmt := top 73
abbrev s_row_fits : Stmt := top 74
abbrev s_Walk___init__ : Stmt := inClass (top 75) 0
abbrev s_Walk_is_over : Stmt := inClass (top 75) 1
abbrev s_Walk_take_number : Stmt := inClass (top 75) 2
abbrev s_Walk_take_row : Stmt := inClass (top 75) 3
abbrev s_answer_one : Stmt := top 76
abbrev s_answers : Stmt := top 77
theorem sc_kind_fits : FnScope ["what", "of", "models"] ["what", "of", "models"] (defScope s_kind_fits) := ⟨rfl, rfl, rfl, by decide +kernel, rfl, by decide +kernel, by decide +kernel⟩
theorem sc_number_class : FnScope ["value"] ["value"] (defScope s_number_class) := ⟨rfl, rfl, rfl, by decide +kernel, rfl, by decide +kernel, by decide +kernel⟩
theorem sc_value_fits : FnScope ["what", "of", "value", "models", "symbol"] ["what", "of", "value", "models"] (defScope s_value_fits) := ⟨rfl, rfl, rfl, by decide +kernel, rfl, by decide +kernel, by decide +kernel⟩
theorem sc_item_fits : FnScope ["what", "of", "value", "models"] ["what", "of", "value", "models"] (defScope s_item_fits) := ⟨rfl, rfl, rfl, by decide +kernel, rfl, by decide +kernel, by decide +kernel⟩
theorem sc_items_fit : FnScope ["numbers", "models", "what", "of", "value"] ["numbers", "models"] (defScope s_items_fit) := ⟨rfl, rfl, rfl, by decide +kernel, rfl, by decide +kernel, by decide +kernel⟩
theorem sc_kinds_fit : FnScope ["numbers", "models", "what", "of"] ["numbers", "models"] (defScope s_kinds_fit) := ⟨rfl, rfl, rfl, by decide +kernel, rfl, by decide +kernel, by decide +kernel⟩
theorem sc_bit_pieces : FnScope ["bits", "value", "pieces", "size"] ["bits", "value"] (defScope s_bit_pieces) := ⟨rfl, rfl, rfl, by decide +kernel, rfl, by decide +kernel, by decide +kernel⟩
theorem sc_item_pieces : FnScope ["what", "of", "value", "symbol"] ["what", "of", "value"] (defScope s_item_pieces) := ⟨rfl, rfl, rfl, by decide +kernel, rfl, by decide +kernel, by decide +kernel⟩
theorem sc_all_pieces : FnScope ["numbers", "pieces", "what", "of", "value"] ["numbers"] (defScope s_all_pieces) := ⟨rfl, rfl, rfl, by decide +kernel, rfl, by decide +kernel, by decide +kernel⟩
theorem sc_Model___init__ : FnScope ["self", "symbols", "slowness", "i"] ["self", "symbols", "slowness"] (defScope s_Model___init__) := ⟨rfl, rfl, rfl, by decide +kernel, rfl, by decide +kernel, by decide +kernel⟩
theorem sc_Model_share : FnScope ["self", "symbol", "begin", "behind"] ["self", "symbol"] (defScope s_Model_share) := ⟨rfl, rfl, rfl, by decide +kernel, rfl, by decide +kernel, by decide +kernel⟩
theorem sc_Model_symbol_at : FnScope ["self", "place", "symbol", "behind", "middle"] ["self", "place"] (defScope s_Model_symbol_at) := ⟨rfl, rfl, rfl, by decide +kernel, rfl, by decide +kernel, by decide +kernel⟩
theorem sc_Model_rate : FnScope ["self"] ["self"] (defScope s_Model_rate) := ⟨rfl, rfl, rfl, by decide +kernel, rfl, by decide +kernel, by decide +kernel⟩
theorem sc_Model_see : FnScope ["self", "symbol", "rate", "kept", "i", "target"] ["self", "symbol"] (defScope s_Model_see) := ⟨rfl, rfl, rfl, by decide +kernel, rfl, by decide +kernel, by decide +kernel⟩
theorem sc_model_fits : FnScope ["symbols", "slowness"] ["symbols", "slowness"] (defScope s_model_fits) := ⟨rfl, rfl, rfl, by decide +kernel, rfl, by decide +kernel, by decide +kernel⟩
theorem sc_models_fit : FnScope ["numbers", "symbols", "slowness"] ["numbers"] (defScope s_models_fit) := ⟨rfl, rfl, rfl, by decide +kernel, rfl, by decide +kernel, by decide +kernel⟩
theorem sc_new_models : FnScope ["numbers", "symbols", "slowness"] ["numbers"] (defScope s_new_models) := ⟨rfl, rfl, rfl, by decide +kernel, rfl, by decide +kernel, by decide +kernel⟩
theorem sc_coded : FnScope ["shares", "lanes", "states", "words", "j", "lane", "begin", "places"] ["shares", "lanes"] (defScope s_coded) := ⟨rfl, rfl, rfl, by decide +kernel, rfl, by decide +kernel, by decide +kernel⟩
theorem sc_taken_out : FnScope ["state", "begin", "places"] ["state", "begin", "places"] (defScope s_taken_out) := ⟨rfl, rfl, rfl, by decide +kernel, rfl, by decide +kernel, by decide +kernel⟩
theorem sc_is_full : FnScope ["state", "places"] ["state", "places"] (defScope s_is_full) := ⟨rfl, rfl, rfl, by decide +kernel, rfl, by decide +kernel, by decide +kernel⟩
theorem sc_row_bytes : FnScope ["states", "words", "octets", "state", "word"] ["states", "words"] (defScope s_row_bytes) := ⟨rfl, rfl, rfl, by decide +kernel, rfl, by decide +kernel, by decide +kernel⟩
theorem sc_low_first : FnScope ["number", "size", "k"] ["number", "size"] (defScope s_low_first) := ⟨rfl, rfl, rfl, by decide +kernel, rfl, by decide +kernel, by decide +kernel⟩
theorem sc_from_low_first : FnScope ["octets", "number", "octet"] ["octets"] (defScope s_from_low_first) := ⟨rfl, rfl, rfl, by decide +kernel, rfl, by decide +kernel, by decide +kernel⟩
theorem sc_numbers_of_size : FnScope ["octets", "size", "at"] ["octets", "size"] (defScope s_numbers_of_size) := ⟨rfl, rfl, rfl, by decide +kernel, rfl, by decide +kernel, by decide +kernel⟩
theorem sc_states_in : FnScope ["octets", "lanes"] ["octets", "lanes"] (defScope s_states_in) := ⟨rfl, rfl, rfl, by decide +kernel, rfl, by decide +kernel, by decide +kernel⟩
theorem sc_words_in : FnScope ["octets", "lanes"] ["octets", "lanes"] (defScope s_words_in) := ⟨rfl, rfl, rfl, by decide +kernel, rfl, by decide +kernel, by decide +kernel⟩
theorem sc_fault_place : FnScope ["octets", "lanes", "lane", "state"] ["octets", "lanes"] (defScope s_fault_place) := ⟨rfl, rfl, rfl, by decide +kernel, rfl, by decide +kernel, by decide +kernel⟩
theorem sc_Row___init__ : FnScope ["self", "lanes", "numbers"] ["self", "lanes", "numbers"] (defScope s_Row___init__) := ⟨rfl, rfl, rfl, by decide +kernel, rfl, by decide +kernel, by decide +kernel⟩
theorem sc_Row_piece_share : FnScope ["self", "piece", "places"] ["self", "piece"] (defScope s_Row_piece_share) := ⟨rfl, rfl, rfl, by decide +kernel, rfl, by decide +kernel, by decide +kernel⟩
theorem sc_Row_go_by : FnScope ["self", "piece"] ["self", "piece"] (defScope s_Row_go_by) := ⟨rfl, rfl, rfl, by decide +kernel, rfl, by decide +kernel, by decide +kernel⟩
theorem sc_Row_end_group : FnScope ["self", "piece"] ["self"] (defScope s_Row_end_group) := ⟨rfl, rfl, rfl, by decide +kernel, rfl, by decide +kernel, by decide +kernel⟩
theorem sc_Writer___init__ : FnScope ["self", "lanes", "numbers"] ["self", "lanes", "numbers"] (defScope s_Writer___init__) := ⟨rfl, rfl, rfl, by decide +kernel, rfl, by decide +kernel, by decide +kernel⟩
theorem sc_Writer_write : FnScope ["self", "pieces", "piece"] ["self", "pieces"] (defScope s_Writer_write) := ⟨rfl, rfl, rfl, by decide +kernel, rfl, by decide +kernel, by decide +kernel⟩
theorem sc_Writer_row_coded : FnScope ["self"] ["self"] (defScope s_Writer_row_coded) := ⟨rfl, rfl, rfl, by decide +kernel, rfl, by decide +kernel, by decide +kernel⟩
theorem sc_Reader___init__ : FnScope ["self", "lanes", "numbers", "octets"] ["self", "lanes", "numbers", "octets"] (defScope s_Reader___init__) := ⟨rfl, rfl, rfl, by decide +kernel, rfl, by decide +kernel, by decide +kernel⟩
theorem sc_Reader_read : FnScope ["self", "numbers", "values", "what", "of"] ["self", "numbers"] (defScope s_Reader_read) := ⟨rfl, rfl, rfl, by decide +kernel, rfl, by decide +kernel, by decide +kernel⟩
theorem sc_Reader_read_whole : FnScope ["self", "what", "of", "attempt", "value", "piece"] ["self", "what", "of"] (defScope s_Reader_read_whole) := ⟨rfl, rfl, rfl, by decide +kernel, rfl, by decide +kernel, by decide +kernel⟩
theorem sc_Reader_is_at_end : FnScope ["self", "state"] ["self"] (defScope s_Reader_is_at_end) := ⟨rfl, rfl, rfl, by decide +kernel, rfl, by decide +kernel, by decide +kernel⟩
theorem sc_Attempt___init__ : FnScope ["self", "reader"] ["self", "reader"] (defScope s_Attempt___init__) := ⟨rfl, rfl, rfl, by decide +kernel, rfl, by decide +kernel, by decide +kernel⟩
theorem sc_Attempt_read_item : FnScope ["self", "what", "of", "symbol"] ["self", "what", "of"] (defScope s_Attempt_read_item) := ⟨rfl, rfl, rfl, by decide +kernel, rfl, by decide +kernel, by decide +kernel⟩
theorem sc_Attempt_read_symbol : FnScope ["self", "k", "symbol"] ["self", "k"] (defScope s_Attempt_read_symbol) := ⟨rfl, rfl, rfl, by decide +kernel, rfl, by decide +kernel, by decide +kernel⟩
theorem sc_Attempt_read_bits : FnScope ["self", "bits", "value", "known", "size", "part"] ["self", "bits"] (defScope s_Attempt_read_bits) := ⟨rfl, rfl, rfl, by decide +kernel, rfl, by decide +kernel, by decide +kernel⟩
theorem sc_Attempt_lane : FnScope ["self"] ["self"] (defScope s_Attempt_lane) := ⟨rfl, rfl, rfl, by decide +kernel, rfl, by decide +kernel, by decide +kernel⟩
theorem sc_Attempt_spot : FnScope ["self"] ["self"] (defScope s_Attempt_spot) := ⟨rfl, rfl, rfl, by decide +kernel, rfl, by decide +kernel, by decide +kernel⟩
theorem sc_Attempt_take_out : FnScope ["self", "piece", "lane", "share", "state"] ["self", "piece"] (defScope s_Attempt_take_out) := ⟨rfl, rfl, rfl, by decide +kernel, rfl, by decide +kernel, by decide +kernel⟩
theorem sc_Attempt_take_word : FnScope ["self", "word"] ["self"] (defScope s_Attempt_take_word) := ⟨rfl, rfl, rfl, by decide +kernel, rfl, by decide +kernel, by decide +kernel⟩
theorem sc_Coder___init__ : FnScope ["self"] ["self"] (defScope s_Coder___init__) := ⟨rfl, rfl, rfl, by decide +kernel, rfl, by decide +kernel, by decide +kernel⟩
theorem sc_Coder_begin : FnScope ["self", "lanes", "models"] ["self", "lanes", "models"] (defScope s_Coder_begin) := ⟨rfl, rfl, rfl, by decide +kernel, rfl, by decide +kernel, by decide +kernel⟩
theorem sc_Coder_put : FnScope ["self", "numbers", "row", "pieces"] ["self", "numbers"] (defScope s_Coder_put) := ⟨rfl, rfl, rfl, by decide +kernel, rfl, by decide +kernel, by decide +kernel⟩
theorem sc_Coder_end : FnScope ["self", "octets"] ["self"] (defScope s_Coder_end) := ⟨rfl, rfl, rfl, by decide +kernel, rfl, by decide +kernel, by decide +kernel⟩
theorem sc_Coder_open_row : FnScope ["self", "lanes", "models", "octets", "place"] ["self", "lanes", "models", "octets"] (defScope s_Coder_open_row) := ⟨rfl, rfl, rfl, by decide +kernel, rfl, by decide +kernel, by decide +kernel⟩
theorem sc_Coder_get : FnScope ["self", "numbers"] ["self", "numbers"] (defScope s_Coder_get) := ⟨rfl, rfl, rfl, by decide +kernel, rfl, by decide +kernel, by decide +kernel⟩
theorem sc_Coder_done : FnScope ["self"] ["self"] (defScope s_Coder_done) := ⟨rfl, rfl, rfl, by decide +kernel, rfl, by decide +kernel, by decide +kernel⟩
theorem sc_Coder_model : FnScope ["self", "k", "models"] ["self", "k"] (defScope s_Coder_model) := ⟨rfl, rfl, rfl, by decide +kernel, rfl, by decide +kernel, by decide +kernel⟩
theorem sc_Coder_models_now : FnScope ["self"] ["self"] (defScope s_Coder_models_now) := ⟨rfl, rfl, rfl, by decide +kernel, rfl, by decide +kernel, by decide +kernel⟩
theorem sc_told_list : FnScope ["numbers"] ["numbers"] (defScope s_told_list) := ⟨rfl, rfl, rfl, by decide +kernel, rfl, by decide +kernel, by decide +kernel⟩
theorem sc_row_fits : FnScope ["lanes", "models"] ["lanes", "models"] (defScope s_row_fits) := ⟨rfl, rfl, rfl, by decide +kernel, rfl, by decide +kernel, by decide +kernel⟩
theorem sc_Walk___init__ : FnScope ["self", "numbers"] ["self", "numbers"] (defScope s_Walk___init__) := ⟨rfl, rfl, rfl, by decide +kernel, rfl, by decide +kernel, by decide +kernel⟩
theorem sc_Walk_is_over : FnScope ["self"] ["self"] (defScope s_Walk_is_over) := ⟨rfl, rfl, rfl, by decide +kernel, rfl, by decide +kernel, by decide +kernel⟩
theorem sc_Walk_take_number : FnScope ["self", "number"] ["self"] (defScope s_Walk_take_number) := ⟨rfl, rfl, rfl, by decide +kernel, rfl, by decide +kernel, by decide +kernel⟩
theorem sc_Walk_take_row : FnScope ["self", "size", "start"] ["self"] (defScope s_Walk_take_row) := ⟨rfl, rfl, rfl, by decide +kernel, rfl, by decide +kernel, by decide +kernel⟩
theorem sc_answer_one : FnScope ["coder", "walk", "call", "lanes", "models"] ["coder", "walk"] (defScope s_answer_one) := ⟨rfl, rfl, rfl, by decide +kernel, rfl, by decide +kernel, by decide +kernel⟩
theorem sc_answers : FnScope ["calls", "coder", "walk", "answered", "answer"] ["calls"] (defScope s_answers) := ⟨rfl, rfl, rfl, by decide +kernel, rfl, by decide +kernel, by decide +kernel⟩
set_option genInjectivity false in
set_option genSizeOf false in
structure Txt (K : PySem.W.Frag) (mg : Str → Option Value) : Type where
  f_kind_fits : Addr
  d_kind_fits : FuncData
  F_kind_fits : Fun K "kind_fits" "kind_fits" s_kind_fits f_kind_fits d_kind_fits
  b_kind_fits : Binds K d_kind_fits ["what", "of", "models"] []
  m_kind_fits : mg "kind_fits" = some (.ref f_kind_fits)
  f_number_class : Addr
  d_number_class : FuncData
  F_number_class : Fun K "number_class" "number_class" s_number_class f_number_class d_number_class
  b_number_class : Binds K d_number_class ["value"] []
  m_number_class : mg "number_class" = some (.ref f_number_class)
  f_value_fits : Addr
  d_value_fits : FuncData
  F_value_fits : Fun K "value_fits" "value_fits" s_value_fits f_value_fits d_value_fits
  b_value_fits : Binds K d_value_fits ["what", "of", "value", "models"] []
  m_value_fits : mg "value_fits" = some (.ref f_value_fits)
  f_item_fits : Addr
  d_item_fits : FuncData
  F_item_fits : Fun K "item_fits" "item_fits" s_item_fits f_item_fits d_item_fits
  b_item_fits : Binds K d_item_fits ["what", "of", "value", "models"] []
  m_item_fits : mg "item_fits" = some (.ref f_item_fits)
  f_items_fit : Addr
  d_items_fit : FuncData
  F_items_fit : Fun K "items_fit" "items_fit" s_items_fit f_items_fit d_items_fit
  b_items_fit : Binds K d_items_fit ["numbers", "models"] []
  m_items_fit : mg "items_fit" = some (.ref f_items_fit)
  f_kinds_fit : Addr
  d_kinds_fit : FuncData
  F_kinds_fit : Fun K "kinds_fit" "kinds_fit" s_kinds_fit f_kinds_fit d_kinds_fit
  b_kinds_fit : Binds K d_kinds_fit ["numbers", "models"] []
  m_kinds_fit : mg "kinds_fit" = some (.ref f_kinds_fit)
  f_bit_pieces : Addr
  d_bit_pieces : FuncData
  F_bit_pieces : Fun K "bit_pieces" "bit_pieces" s_bit_pieces f_bit_pieces d_bit_pieces
  b_bit_pieces : Binds K d_bit_pieces ["bits", "value"] []
  m_bit_pieces : mg "bit_pieces" = some (.ref f_bit_pieces)
  f_item_pieces : Addr
  d_item_pieces : FuncData
  F_item_pieces : Fun K "item_pieces" "item_pieces" s_item_pieces f_item_pieces d_item_pieces
  b_item_pieces : Binds K d_item_pieces ["what", "of", "value"] []
  m_item_pieces : mg "item_pieces" = some (.ref f_item_pieces)
  f_all_pieces : Addr
  d_all_pieces : FuncData
  F_all_pieces : Fun K "all_pieces" "all_pieces" s_all_pieces f_all_pieces d_all_pieces
  b_all_pieces : Binds K d_all_pieces ["numbers"] []
  m_all_pieces : mg "all_pieces" = some (.ref f_all_pieces)
  f_Model___init__ : Addr
  d_Model___init__ : FuncData
  F_Model___init__ : Fun K "__init__" "Model.__init__" s_Model___init__ f_Model___init__ d_Model___init__
  b_Model___init__ : Binds K d_Model___init__ ["self", "symbols", "slowness"] []
  f_Model_share : Addr
  d_Model_share : FuncData
  F_Model_share : Fun K "share" "Model.share" s_Model_share f_Model_share d_Model_share
  b_Model_share : Binds K d_Model_share ["self", "symbol"] []
  f_Model_symbol_at : Addr
  d_Model_symbol_at : FuncData
  F_Model_symbol_at : Fun K "symbol_at" "Model.symbol_at" s_Model_symbol_at f_Model_symbol_at d_Model_symbol_at
  b_Model_symbol_at : Binds K d_Model_symbol_at ["self", "place"] []
  f_Model_rate : Addr
  d_Model_rate : FuncData
  F_Model_rate : Fun K "rate" "Model.rate" s_Model_rate f_Model_rate d_Model_rate
  b_Model_rate : Binds K d_Model_rate ["self"] []
  f_Model_see : Addr
  d_Model_see : FuncData
  F_Model_see : Fun K "see" "Model.see" s_Model_see f_Model_see d_Model_see
  b_Model_see : Binds K d_Model_see ["self", "symbol"] []
  f_model_fits : Addr
  d_model_fits : FuncData
  F_model_fits : Fun K "model_fits" "model_fits" s_model_fits f_model_fits d_model_fits
  b_model_fits : Binds K d_model_fits ["symbols", "slowness"] []
  m_model_fits : mg "model_fits" = some (.ref f_model_fits)
  f_models_fit : Addr
  d_models_fit : FuncData
  F_models_fit : Fun K "models_fit" "models_fit" s_models_fit f_models_fit d_models_fit
  b_models_fit : Binds K d_models_fit ["numbers"] []
  m_models_fit : mg "models_fit" = some (.ref f_models_fit)
  f_new_models : Addr
  d_new_models : FuncData
  F_new_models : Fun K "new_models" "new_models" s_new_models f_new_models d_new_models
  b_new_models : Binds K d_new_models ["numbers"] []
  m_new_models : mg "new_models" = some (.ref f_new_models)
  f_coded : Addr
  d_coded : FuncData
  F_coded : Fun K "coded" "coded" s_coded f_coded d_coded
  b_coded : Binds K d_coded ["shares", "lanes"] []
  m_coded : mg "coded" = some (.ref f_coded)
  f_taken_out : Addr
  d_taken_out : FuncData
  F_taken_out : Fun K "taken_out" "taken_out" s_taken_out f_taken_out d_taken_out
  b_taken_out : Binds K d_taken_out ["state", "begin", "places"] []
  m_taken_out : mg "taken_out" = some (.ref f_taken_out)
  f_is_full : Addr
  d_is_full : FuncData
  F_is_full : Fun K "is_full" "is_full" s_is_full f_is_full d_is_full
  b_is_full : Binds K d_is_full ["state", "places"] []
  m_is_full : mg "is_full" = some (.ref f_is_full)
  f_row_bytes : Addr
  d_row_bytes : FuncData
  F_row_bytes : Fun K "row_bytes" "row_bytes" s_row_bytes f_row_bytes d_row_bytes
  b_row_bytes : Binds K d_row_bytes ["states", "words"] []
  m_row_bytes : mg "row_bytes" = some (.ref f_row_bytes)
  f_low_first : Addr
  d_low_first : FuncData
  F_low_first : Fun K "low_first" "low_first" s_low_first f_low_first d_low_first
  b_low_first : Binds K d_low_first ["number", "size"] []
  m_low_first : mg "low_first" = some (.ref f_low_first)
  f_from_low_first : Addr
  d_from_low_first : FuncData
  F_from_low_first : Fun K "from_low_first" "from_low_first" s_from_low_first f_from_low_first d_from_low_first
  b_from_low_first : Binds K d_from_low_first ["octets"] []
  m_from_low_first : mg "from_low_first" = some (.ref f_from_low_first)
  f_numbers_of_size : Addr
  d_numbers_of_size : FuncData
  F_numbers_of_size : Fun K "numbers_of_size" "numbers_of_size" s_numbers_of_size f_numbers_of_size d_numbers_of_size
  b_numbers_of_size : Binds K d_numbers_of_size ["octets", "size"] []
  m_numbers_of_size : mg "numbers_of_size" = some (.ref f_numbers_of_size)
  f_states_in : Addr
  d_states_in : FuncData
  F_states_in : Fun K "states_in" "states_in" s_states_in f_states_in d_states_in
  b_states_in : Binds K d_states_in ["octets", "lanes"] []
  m_states_in : mg "states_in" = some (.ref f_states_in)
  f_words_in : Addr
  d_words_in : FuncData
  F_words_in : Fun K "words_in" "words_in" s_words_in f_words_in d_words_in
  b_words_in : Binds K d_words_in ["octets", "lanes"] []
  m_words_in : mg "words_in" = some (.ref f_words_in)
  f_fault_place : Addr
  d_fault_place : FuncData
  F_fault_place : Fun K "fault_place" "fault_place" s_fault_place f_fault_place d_fault_place
  b_fault_place : Binds K d_fault_place ["octets", "lanes"] []
  m_fault_place : mg "fault_place" = some (.ref f_fault_place)
  f_Row___init__ : Addr
  d_Row___init__ : FuncData
  F_Row___init__ : Fun K "__init__" "Row.__init__" s_Row___init__ f_Row___init__ d_Row___init__
  b_Row___init__ : Binds K d_Row___init__ ["self", "lanes", "numbers"] []
  f_Row_piece_share : Addr
  d_Row_piece_share : FuncData
  F_Row_piece_share : Fun K "piece_share" "Row.piece_share" s_Row_piece_share f_Row_piece_share d_Row_piece_share
  b_Row_piece_share : Binds K d_Row_piece_share ["self", "piece"] []
  f_Row_go_by : Addr
  d_Row_go_by : FuncData
  F_Row_go_by : Fun K "go_by" "Row.go_by" s_Row_go_by f_Row_go_by d_Row_go_by
  b_Row_go_by : Binds K d_Row_go_by ["self", "piece"] []
  f_Row_end_group : Addr
  d_Row_end_group : FuncData
  F_Row_end_group : Fun K "end_group" "Row.end_group" s_Row_end_group f_Row_end_group d_Row_end_group
  b_Row_end_group : Binds K d_Row_end_group ["self"] []
  f_Writer___init__ : Addr
  d_Writer___init__ : FuncData
  F_Writer___init__ : Fun K "__init__" "Writer.__init__" s_Writer___init__ f_Writer___init__ d_Writer___init__
  b_Writer___init__ : Binds K d_Writer___init__ ["self", "lanes", "numbers"] []
  f_Writer_write : Addr
  d_Writer_write : FuncData
  F_Writer_write : Fun K "write" "Writer.write" s_Writer_write f_Writer_write d_Writer_write
  b_Writer_write : Binds K d_Writer_write ["self", "pieces"] []
  f_Writer_row_coded : Addr
  d_Writer_row_coded : FuncData
  F_Writer_row_coded : Fun K "row_coded" "Writer.row_coded" s_Writer_row_coded f_Writer_row_coded d_Writer_row_coded
  b_Writer_row_coded : Binds K d_Writer_row_coded ["self"] []
  f_Reader___init__ : Addr
  d_Reader___init__ : FuncData
  F_Reader___init__ : Fun K "__init__" "Reader.__init__" s_Reader___init__ f_Reader___init__ d_Reader___init__
  b_Reader___init__ : Binds K d_Reader___init__ ["self", "lanes", "numbers", "octets"] []
  f_Reader_read : Addr
  d_Reader_read : FuncData
  F_Reader_read : Fun K "read" "Reader.read" s_Reader_read f_Reader_read d_Reader_read
  b_Reader_read : Binds K d_Reader_read ["self", "numbers"] []
  f_Reader_read_whole : Addr
  d_Reader_read_whole : FuncData
  F_Reader_read_whole : Fun K "read_whole" "Reader.read_whole" s_Reader_read_whole f_Reader_read_whole d_Reader_read_whole
  b_Reader_read_whole : Binds K d_Reader_read_whole ["self", "what", "of"] []
  f_Reader_is_at_end : Addr
  d_Reader_is_at_end : FuncData
  F_Reader_is_at_end : Fun K "is_at_end" "Reader.is_at_end" s_Reader_is_at_end f_Reader_is_at_end d_Reader_is_at_end
  b_Reader_is_at_end : Binds K d_Reader_is_at_end ["self"] []
  f_Attempt___init__ : Addr
  d_Attempt___init__ : FuncData
  F_Attempt___init__ : Fun K "__init__" "Attempt.__init__" s_Attempt___init__ f_Attempt___init__ d_Attempt___init__
  b_Attempt___init__ : Binds K d_Attempt___init__ ["self", "reader"] []
  f_Attempt_read_item : Addr
  d_Attempt_read_item : FuncData
  F_Attempt_read_item : Fun K "read_item" "Attempt.read_item" s_Attempt_read_item f_Attempt_read_item d_Attempt_read_item
  b_Attempt_read_item : Binds K d_Attempt_read_item ["self", "what", "of"] []
  f_Attempt_read_symbol : Addr
  d_Attempt_read_symbol : FuncData
  F_Attempt_read_symbol : Fun K "read_symbol" "Attempt.read_symbol" s_Attempt_read_symbol f_Attempt_read_symbol d_Attempt_read_symbol
  b_Attempt_read_symbol : Binds K d_Attempt_read_symbol ["self", "k"] []
  f_Attempt_read_bits : Addr
  d_Attempt_read_bits : FuncData
  F_Attempt_read_bits : Fun K "read_bits" "Attempt.read_bits" s_Attempt_read_bits f_Attempt_read_bits d_Attempt_read_bits
  b_Attempt_read_bits : Binds K d_Attempt_read_bits ["self", "bits"] []
  f_Attempt_lane : Addr
  d_Attempt_lane : FuncData
  F_Attempt_lane : Fun K "lane" "Attempt.lane" s_Attempt_lane f_Attempt_lane d_Attempt_lane
  b_Attempt_lane : Binds K d_Attempt_lane ["self"] []
  f_Attempt_spot : Addr
  d_Attempt_spot : FuncData
  F_Attempt_spot : Fun K "spot" "Attempt.spot" s_Attempt_spot f_Attempt_spot d_Attempt_spot
  b_Attempt_spot : Binds K d_Attempt_spot ["self"] []
  f_Attempt_take_out : Addr
  d_Attempt_take_out : FuncData
  F_Attempt_take_out : Fun K "take_out" "Attempt.take_out" s_Attempt_take_out f_Attempt_take_out d_Attempt_take_out
  b_Attempt_take_out : Binds K d_Attempt_take_out ["self", "piece"] []
  f_Attempt_take_word : Addr
  d_Attempt_take_word : FuncData
  F_Attempt_take_word : Fun K "take_word" "Attempt.take_word" s_Attempt_take_word f_Attempt_take_word d_Attempt_take_word
  b_Attempt_take_word : Binds K d_Attempt_take_word ["self"] []
  f_Coder___init__ : Addr
  d_Coder___init__ : FuncData
  F_Coder___init__ : Fun K "__init__" "Coder.__init__" s_Coder___init__ f_Coder___init__ d_Coder___init__
  b_Coder___init__ : Binds K d_Coder___init__ ["self"] []
  f_Coder_begin : Addr
  d_Coder_begin : FuncData
  F_Coder_begin : Fun K "begin" "Coder.begin" s_Coder_begin f_Coder_begin d_Coder_begin
  b_Coder_begin : Binds K d_Coder_begin ["self", "lanes", "models"] []
  f_Coder_put : Addr
  d_Coder_put : FuncData
  F_Coder_put : Fun K "put" "Coder.put" s_Coder_put f_Coder_put d_Coder_put
  b_Coder_put : Binds K d_Coder_put ["self", "numbers"] []
  f_Coder_end : Addr
  d_Coder_end : FuncData
  F_Coder_end : Fun K "end" "Coder.end" s_Coder_end f_Coder_end d_Coder_end
  b_Coder_end : Binds K d_Coder_end ["self"] []
  f_Coder_open_row : Addr
  d_Coder_open_row : FuncData
  F_Coder_open_row : Fun K "open_row" "Coder.open_row" s_Coder_open_row f_Coder_open_row d_Coder_open_row
  b_Coder_open_row : Binds K d_Coder_open_row ["self", "lanes", "models", "octets"] []
  f_Coder_get : Addr
  d_Coder_get : FuncData
  F_Coder_get : Fun K "get" "Coder.get" s_Coder_get f_Coder_get d_Coder_get
  b_Coder_get : Binds K d_Coder_get ["self", "numbers"] []
  f_Coder_done : Addr
  d_Coder_done : FuncData
  F_Coder_done : Fun K "done" "Coder.done" s_Coder_done f_Coder_done d_Coder_done
  b_Coder_done : Binds K d_Coder_done ["self"] []
  f_Coder_model : Addr
  d_Coder_model : FuncData
  F_Coder_model : Fun K "model" "Coder.model" s_Coder_model f_Coder_model d_Coder_model
  b_Coder_model : Binds K d_Coder_model ["self", "k"] []
  f_Coder_models_now : Addr
  d_Coder_models_now : FuncData
  F_Coder_models_now : Fun K "models_now" "Coder.models_now" s_Coder_models_now f_Coder_models_now d_Coder_models_now
  b_Coder_models_now : Binds K d_Coder_models_now ["self"] []
  f_told_list : Addr
  d_told_list : FuncData
  F_told_list : Fun K "told_list" "told_list" s_told_list f_told_list d_told_list
  b_told_list : Binds K d_told_list ["numbers"] []
  m_told_list : mg "told_list" = some (.ref f_told_list)
  f_row_fits : Addr
  d_row_fits : FuncData
  F_row_fits : Fun K "row_fits" "row_fits" s_row_fits f_row_fits d_row_fits
  b_row_fits : Binds K d_row_fits ["lanes", "models"] []
  m_row_fits : mg "row_fits" = some (.ref f_row_fits)
  f_Walk___init__ : Addr
  d_Walk___init__ : FuncData
  F_Walk___init__ : Fun K "__init__" "Walk.__init__" s_Walk___init__ f_Walk___init__ d_Walk___init__
  b_Walk___init__ : Binds K d_Walk___init__ ["self", "numbers"] []
  f_Walk_is_over : Addr
  d_Walk_is_over : FuncData
  F_Walk_is_over : Fun K "is_over" "Walk.is_over" s_Walk_is_over f_Walk_is_over d_Walk_is_over
  b_Walk_is_over : Binds K d_Walk_is_over ["self"] []
  f_Walk_take_number : Addr
  d_Walk_take_number : FuncData
  F_Walk_take_number : Fun K "take_number" "Walk.take_number" s_Walk_take_number f_Walk_take_number d_Walk_take_number
  b_Walk_take_number : Binds K d_Walk_take_number ["self"] []
  f_Walk_take_row : Addr
  d_Walk_take_row : FuncData
  F_Walk_take_row : Fun K "take_row" "Walk.take_row" s_Walk_take_row f_Walk_take_row d_Walk_take_row
  b_Walk_take_row : Binds K d_Walk_take_row ["self"] []
  f_answer_one : Addr
  d_answer_one : FuncData
  F_answer_one : Fun K "answer_one" "answer_one" s_answer_one f_answer_one d_answer_one
  b_answer_one : Binds K d_answer_one ["coder", "walk"] []
  m_answer_one : mg "answer_one" = some (.ref f_answer_one)
  f_answers : Addr
  d_answers : FuncData
  F_answers : Fun K "answers" "answers" s_answers f_answers d_answers
  b_answers : Binds K d_answers ["calls"] []
  m_answers : mg "answers" = some (.ref f_answers)
  C_Model : Addr
  cl_Model : Cls K C_Model
  mc_Model : mg "Model" = some (.ref C_Model)
  mk_Model : Mk K C_Model f_Model___init__
  n_Model_symbols : NoAttr K C_Model "symbols"
  n_Model_slowness : NoAttr K C_Model "slowness"
  n_Model_seen : NoAttr K C_Model "seen"
  n_Model_begins : NoAttr K C_Model "begins"
  me_Model_share : Meth K C_Model "share" f_Model_share
  me_Model_symbol_at : Meth K C_Model "symbol_at" f_Model_symbol_at
  me_Model_rate : Meth K C_Model "rate" f_Model_rate
  me_Model_see : Meth K C_Model "see" f_Model_see
  C_Row : Addr
  cl_Row : Cls K C_Row
  mc_Row : mg "Row" = some (.ref C_Row)
  mk_Row : Mk K C_Row f_Row___init__
  n_Row_lanes : NoAttr K C_Row "lanes"
  n_Row_models : NoAttr K C_Row "models"
  n_Row_total : NoAttr K C_Row "total"
  n_Row_waiting : NoAttr K C_Row "waiting"
  me_Row_piece_share : Meth K C_Row "piece_share" f_Row_piece_share
  me_Row_go_by : Meth K C_Row "go_by" f_Row_go_by
  me_Row_end_group : Meth K C_Row "end_group" f_Row_end_group
  C_Writer : Addr
  cl_Writer : Cls K C_Writer
  mc_Writer : mg "Writer" = some (.ref C_Writer)
  mk_Writer : Mk K C_Writer f_Writer___init__
  n_Writer_row : NoAttr K C_Writer "row"
  n_Writer_shares : NoAttr K C_Writer "shares"
  me_Writer_write : Meth K C_Writer "write" f_Writer_write
  me_Writer_row_coded : Meth K C_Writer "row_coded" f_Writer_row_coded
  C_Reader : Addr
  cl_Reader : Cls K C_Reader
  mc_Reader : mg "Reader" = some (.ref C_Reader)
  mk_Reader : Mk K C_Reader f_Reader___init__
  n_Reader_row : NoAttr K C_Reader "row"
  n_Reader_states : NoAttr K C_Reader "states"
  n_Reader_words : NoAttr K C_Reader "words"
  n_Reader_words_read : NoAttr K C_Reader "words_read"
  n_Reader_stopped : NoAttr K C_Reader "stopped"
  me_Reader_read : Meth K C_Reader "read" f_Reader_read
  me_Reader_read_whole : Meth K C_Reader "read_whole" f_Reader_read_whole
  me_Reader_is_at_end : Meth K C_Reader "is_at_end" f_Reader_is_at_end
  C_Attempt : Addr
  cl_Attempt : Cls K C_Attempt
  mc_Attempt : mg "Attempt" = some (.ref C_Attempt)
  mk_Attempt : Mk K C_Attempt f_Attempt___init__
  n_Attempt_row : NoAttr K C_Attempt "row"
  n_Attempt_states : NoAttr K C_Attempt "states"
  n_Attempt_words : NoAttr K C_Attempt "words"
  n_Attempt_words_read : NoAttr K C_Attempt "words_read"
  n_Attempt_pieces : NoAttr K C_Attempt "pieces"
  me_Attempt_read_item : Meth K C_Attempt "read_item" f_Attempt_read_item
  me_Attempt_read_symbol : Meth K C_Attempt "read_symbol" f_Attempt_read_symbol
  me_Attempt_read_bits : Meth K C_Attempt "read_bits" f_Attempt_read_bits
  me_Attempt_lane : Meth K C_Attempt "lane" f_Attempt_lane
  me_Attempt_spot : Meth K C_Attempt "spot" f_Attempt_spot
  me_Attempt_take_out : Meth K C_Attempt "take_out" f_Attempt_take_out
  me_Attempt_take_word : Meth K C_Attempt "take_word" f_Attempt_take_word
  C_Coder : Addr
  cl_Coder : Cls K C_Coder
  mc_Coder : mg "Coder" = some (.ref C_Coder)
  mk_Coder : Mk K C_Coder f_Coder___init__
  n_Coder_writer : NoAttr K C_Coder "writer"
  n_Coder_reader : NoAttr K C_Coder "reader"
  me_Coder_begin : Meth K C_Coder "begin" f_Coder_begin
  me_Coder_put : Meth K C_Coder "put" f_Coder_put
  me_Coder_end : Meth K C_Coder "end" f_Coder_end
  me_Coder_open_row : Meth K C_Coder "open_row" f_Coder_open_row
  me_Coder_get : Meth K C_Coder "get" f_Coder_get
  me_Coder_done : Meth K C_Coder "done" f_Coder_done
  me_Coder_model : Meth K C_Coder "model" f_Coder_model
  me_Coder_models_now : Meth K C_Coder "models_now" f_Coder_models_now
  C_Walk : Addr
  cl_Walk : Cls K C_Walk
  mc_Walk : mg "Walk" = some (.ref C_Walk)
  mk_Walk : Mk K C_Walk f_Walk___init__
  n_Walk_numbers : NoAttr K C_Walk "numbers"
  n_Walk_place : NoAttr K C_Walk "place"
  me_Walk_is_over : Meth K C_Walk "is_over" f_Walk_is_over
  me_Walk_take_number : Meth K C_Walk "take_number" f_Walk_take_number
  me_Walk_take_row : Meth K C_Walk "take_row" f_Walk_take_row
  C_WordLacks : Addr
  mc_WordLacks : mg "WordLacks" = some (.ref C_WordLacks)
  ow_WordLacks : ∀ h : Heap, K.In h → OwnCls "WordLacks" C_WordLacks [.type "Exception", .type "BaseException", .type "object"] "Exception.__new__" mg h
  t_SYMBOL : Tok
  g_SYMBOL : mg "SYMBOL" = some (.int (0) t_SYMBOL)
  t_PLAIN : Tok
  g_PLAIN : mg "PLAIN" = some (.int (1) t_PLAIN)
  t_NUMBER : Tok
  g_NUMBER : mg "NUMBER" = some (.int (2) t_NUMBER)
  t_PIECE_BITS : Tok
  g_PIECE_BITS : mg "PIECE_BITS" = some (.int (15) t_PIECE_BITS)
  t_MOST_BITS : Tok
  g_MOST_BITS : mg "MOST_BITS" = some (.int (52) t_MOST_BITS)
  t_MOST_NUMBER_SYMBOLS : Tok
  g_MOST_NUMBER_SYMBOLS : mg "MOST_NUMBER_SYMBOLS" = some (.int (52) t_MOST_NUMBER_SYMBOLS)
  t_PLACES : Tok
  g_PLACES : mg "PLACES" = some (.int (32768) t_PLACES)
  t_MOST_SEEN : Tok
  g_MOST_SEEN : mg "MOST_SEEN" = some (.int (65535) t_MOST_SEEN)
  t_MOST_MODELS : Tok
  g_MOST_MODELS : mg "MOST_MODELS" = some (.int (16) t_MOST_MODELS)
  t_FEWEST_SYMBOLS : Tok
  g_FEWEST_SYMBOLS : mg "FEWEST_SYMBOLS" = some (.int (2) t_FEWEST_SYMBOLS)
  t_MOST_SYMBOLS : Tok
  g_MOST_SYMBOLS : mg "MOST_SYMBOLS" = some (.int (64) t_MOST_SYMBOLS)
  t_LEAST_SLOWNESS : Tok
  g_LEAST_SLOWNESS : mg "LEAST_SLOWNESS" = some (.int (2) t_LEAST_SLOWNESS)
  t_MOST_SLOWNESS : Tok
  g_MOST_SLOWNESS : mg "MOST_SLOWNESS" = some (.int (9) t_MOST_SLOWNESS)
  t_FIRST_STATE : Tok
  g_FIRST_STATE : mg "FIRST_STATE" = some (.int (65536) t_FIRST_STATE)
  t_LEAST_STATE : Tok
  g_LEAST_STATE : mg "LEAST_STATE" = some (.int (65536) t_LEAST_STATE)
  t_WORD : Tok
  g_WORD : mg "WORD" = some (.int (65536) t_WORD)
  t_FULL : Tok
  g_FULL : mg "FULL" = some (.int (131072) t_FULL)
  t_STATE_BYTES : Tok
  g_STATE_BYTES : mg "STATE_BYTES" = some (.int (4) t_STATE_BYTES)
  t_WORD_BYTES : Tok
  g_WORD_BYTES : mg "WORD_BYTES" = some (.int (2) t_WORD_BYTES)
  t_BEGIN : Tok
  g_BEGIN : mg "BEGIN" = some (.int (0) t_BEGIN)
  t_PUT : Tok
  g_PUT : mg "PUT" = some (.int (1) t_PUT)
  t_END : Tok
  g_END : mg "END" = some (.int (2) t_END)
  t_OPEN : Tok
  g_OPEN : mg "OPEN" = some (.int (3) t_OPEN)
  t_GET : Tok
  g_GET : mg "GET" = some (.int (4) t_GET)
  t_DONE : Tok
  g_DONE : mg "DONE" = some (.int (5) t_DONE)
  t_MODEL : Tok
  g_MODEL : mg "MODEL" = some (.int (6) t_MODEL)
  t_MISSHAPEN : Tok
  g_MISSHAPEN : mg "MISSHAPEN" = some (.int (-1) t_MISSHAPEN)
  t_NOT_NOW : Tok
  g_NOT_NOW : mg "NOT_NOW" = some (.int (-4) t_NOT_NOW)
  t_TOO_MANY : Tok
  g_TOO_MANY : mg "TOO_MANY" = some (.int (-7) t_TOO_MANY)
  t_UNREADABLE : Tok
  g_UNREADABLE : mg "UNREADABLE" = some (.int (-8) t_UNREADABLE)
  t_NOT_AT_END : Tok
  g_NOT_AT_END : mg "NOT_AT_END" = some (.int (0) t_NOT_AT_END)
  t_AT_END : Tok
  g_AT_END : mg "AT_END" = some (.int (1) t_AT_END)
  t_PUTTING : Tok
  g_PUTTING : mg "PUTTING" = some (.int (2) t_PUTTING)
  t_IDLE : Tok
  g_IDLE : mg "IDLE" = some (.int (3) t_IDLE)
  a_LANES : Addr
  g_LANES : mg "LANES" = some (.ref a_LANES)
  q_LANES : ∀ H : Hp, SqT K H a_LANES [V.int (1), V.int (4), V.int (8), V.int (16)]
  t_MOST_PIECES : Tok
  g_MOST_PIECES : mg "MOST_PIECES" = some (.int (1000) t_MOST_PIECES)
  t_MOST_BYTES : Tok
  g_MOST_BYTES : mg "MOST_BYTES" = some (.int (4000) t_MOST_BYTES)
  bl_all : mg "all" = none
  bl_enumerate : mg "enumerate" = none
  bl_len : mg "len" = none
  bl_list : mg "list" = none
  bl_min : mg "min" = none
  bl_range : mg "range" = none
  bl_reversed : mg "reversed" = none
  bl_zip : mg "zip" = none
end FB
end
section
namespace FB
open PySem PySem.Spec PyProof.Rows L2
open LwBits (Item Models)
abbrev SModel := LwBits.Model
abbrev iV (n : Nat) : V := .int (n : Int)
abbrev nV (l : List Nat) : List V := l.map iV
theorem nV_app (a b : List Nat) : nV (a ++ b) = nV a ++ nV b := List.map_append
theorem nV_set (l : List Nat) (i x : Nat) : nV (l.set i x) = (nV l).set i (iV x) := List.map_set
theorem nV_len (l : List Nat) : (nV l).length = l.length := List.length_map _
def itV : Item → List V
  | .sym m s => [.int 0, iV m, iV s]
  | .plain b n => [.int 1, iV b, iV n]
variable {K : PySem.W.Frag} {mg : Str → Option Value}
def mf (m : SModel) (lb : Addr) : List (Str × V) := [("symbols", iV m.n), ("slowness", iV m.slow), ("seen", iV m.seen), ("begins", .ref lb)]
theorem mf_symbols (m : SModel) (lb : Addr) : (mf m lb).lookup ("symbols" : Str) = some (iV m.n) := rfl
theorem mf_slowness (m : SModel) (lb : Addr) : (mf m lb).lookup ("slowness" : Str) = some (iV m.slow) := rfl
theorem mf_seen (m : SModel) (lb : Addr) : (mf m lb).lookup ("seen" : Str) = some (iV m.seen) := rfl
theorem mf_begins (m : SModel) (lb : Addr) : (mf m lb).lookup ("begins" : Str) = some (.ref lb) := rfl
structure ModelAt (T : Txt K mg) (H : Hp) (a lb : Addr) (m : SModel) : Prop where
  ob : ∃ dx, H a = some (.ins T.C_Model dx (mf m lb))
  bg : H lb = some (.lst (nV m.begins))
structure ModelsAt (T : Txt K mg) (H : Hp) (l : Addr) (ms : Models) (as bs : List Addr) : Prop where
  lst : H l = some (.lst (as.map V.ref))
  na : as.Nodup
  nb : bs.Nodup
  la : as.length = ms.length
  lb : bs.length = ms.length
  at_ : ∀ (j : Nat) (m : SModel), ms[j]? = some m → ∃ a b, as[j]? = some a ∧ bs[j]? = some b ∧ ModelAt T H a b m
def TupsAt (H : Hp) (rs : List Addr) (vss : List (List V)) : Prop := rs.map H = vss.map fun vs => some (HO.tup vs)
theorem TupsAt.len {H : Hp} {rs : List Addr} {vss : List (List V)} (h : TupsAt H rs vss) : rs.length = vss.length := by
  have e := congrArg List.length h
  simpa using e
theorem TupsAt.get {H : Hp} {rs : List Addr} {vss : List (List V)} (h : TupsAt H rs vss) {j : Nat} {vs : List V} (e : vss[j]? = some vs) : ∃ r, rs[j]? = some r ∧ H r = some (.tup vs) := by
  have q := congrArg (fun l => l[j]?) h
  simp only [List.getElem?_map, e] at q
  cases h2 : rs[j]? with
  | none => rw [h2] at q; cases q
  | some r => rw [h2] at q; exact ⟨r, rfl, Option.some.inj q⟩
theorem TupsAt.get' {H : Hp} {rs : List Addr} {vss : List (List V)} (h : TupsAt H rs vss) {j : Nat} {r : Addr} (e : rs[j]? = some r) : ∃ vs, vss[j]? = some vs ∧ H r = some (.tup vs) := by
  have q := congrArg (fun l => l[j]?) h
  simp only [List.getElem?_map, e] at q
  cases h2 : vss[j]? with
  | none => rw [h2] at q; cases q
  | some r => rw [h2] at q; exact ⟨r, rfl, Option.some.inj q⟩
theorem TupsAt.mem {H : Hp} {rs : List Addr} {vss : List (List V)} (h : TupsAt H rs vss) {r : Addr} (e : r ∈ rs) : ∃ vs, H r = some (.tup vs) := by
  obtain ⟨j, hj⟩ := List.getElem?_of_mem e
  obtain ⟨vs, _, q⟩ := h.get' hj
  exact ⟨vs, q⟩
theorem TupsAt.step {H H' : Hp} {rs : List Addr} {vss : List (List V)} (h : TupsAt H rs vss) (k : ∀ r vs, H r = some (.tup vs) → H' r = some (.tup vs)) : TupsAt H' rs vss := by
  unfold TupsAt at h ⊢
  rw [← h]
  refine List.map_congr_left fun r hr => ?_
  obtain ⟨vs, e⟩ := TupsAt.mem h hr
  rw [e, k r vs e]
theorem TupsAt.same {H H' : Hp} {rs : List Addr} {vss : List (List V)} (h : TupsAt H rs vss) (k : Same H H') : TupsAt H' rs vss := h.step fun r _ e => k r _ e
theorem TupsAt.app {H : Hp} {rs rs' : List Addr} {vss vss' : List (List V)} (h : TupsAt H rs vss) (h' : TupsAt H rs' vss') : TupsAt H (rs ++ rs') (vss ++ vss') := by
  unfold TupsAt at h h' ⊢
  rw [List.map_append, List.map_append, h, h']
theorem TupsAt.one {H : Hp} {r : Addr} {vs : List V} (h : H r = some (.tup vs)) : TupsAt H [r] [vs] := by
  unfold TupsAt
  simp [h]
def TupsL (H : Hp) (p : Addr) (vss : List (List V)) : Prop := ∃ rs : List Addr, H p = some (.lst (rs.map V.ref)) ∧ TupsAt H rs vss
end FB
end
section
namespace FB
open PySem PySem.Spec PyProof.Rows L2 FM
open LwBits (Item Models)
variable {P : Program} {w : World} {K : PySem.W.Frag} {mg : Str → Option Value} {base : Heap}
def sp_number_class : Sp := fun vs H Q _ => ∃ n : Nat, vs = [iV n] ∧ Q (iV ((n + 1).log2)) H
theorem bits_log (n : Nat) : ((Builtin.Int.intBits ((n : Int) + 1) : Nat) : Int) = (((n + 1).log2 : Nat) : Int) + 1 := by
  unfold Builtin.Int.intBits
  have h : ¬ (((n : Int) + 1 == 0) = true) := by
    simp only [beq_iff_eq]
    omega
  rw [if_neg h]
  have e : ((n : Int) + 1).natAbs = n + 1 := by omega
  rw [e]
  omega
theorem ok_number_class (T : Txt K mg) : FnOk P w K mg base CX0 1 T.f_number_class T.d_number_class ["value"] sp_number_class := by
  refine T.F_number_class.ok sc_number_class (fun vs H Q E h => ?_) (fun cdv A outer s H vs Q E hr h => ?_)
  · obtain ⟨n, rfl, _⟩ := h; rfl
  · obtain ⟨n, rfl, k⟩ := h
    refine ⟨_, (pss_one (ps_ret (pe_op op_sub (pe_bits (pe_op op_add (pv 0) pe_int)) pe_int))), ?_⟩
    refine ⟨_, rfl, _, _, rfl, rfl, rfl, _, rfl, rfl, _, _, rfl, rfl, ?_⟩
    show Q (.int (_ - 1)) H
    rw [bits_log]
    have e : (((n + 1).log2 : Nat) : Int) + 1 - 1 = (((n + 1).log2 : Nat) : Int) := by omega
    rw [e]
    exact k
def sp_kind_fits (T : Txt K mg) : Sp := fun vs H Q _ => ∃ (what of : Nat) (l : Addr) (ms : Models) (as bs : List Addr), vs = [iV what, iV of, .ref l] ∧ ModelsAt T H l ms as bs ∧ Q (.bl (Coder.wantOk ms what of)) H
theorem wO1 (ms : Models) (of : Nat) : Coder.wantOk ms 1 of = (decide ((1 : Int) ≤ (of : Int)) && decide ((of : Int) ≤ 52)) := by
  have e1 : decide ((1 : Int) ≤ (of : Int)) = decide (1 ≤ of) := decide_eq_decide.mpr (by omega)
  have e2 : decide ((of : Int) ≤ 52) = decide (of ≤ Coder.BITS) := decide_eq_decide.mpr (by unfold Coder.BITS; omega)
  rw [e1, e2]
  rfl
theorem ModelsAt.get {T : Txt K mg} {H : Hp} {l : Addr} {ms : Models} {as bs : List Addr} (M : ModelsAt T H l ms as bs) {j : Nat} (h : j < ms.length) : ∃ m a b dx, ms[j]? = some m ∧ (as.map V.ref)[j]? = some (.ref a) ∧ as[j]? = some a ∧ bs[j]? = some b ∧ H a = some (.ins T.C_Model dx (mf m b)) ∧ H b = some (.lst (nV m.begins)) := by
  obtain ⟨a, b, ha, hb, ⟨dx, ho⟩, hg⟩ := M.at_ j ms[j] (List.getElem?_eq_getElem h)
  exact ⟨ms[j], a, b, dx, List.getElem?_eq_getElem h, by rw [List.getElem?_map, ha]; rfl, ha, hb, ho, hg⟩
theorem ok_kind_fits (T : Txt K mg) : FnOk P w K mg base CX0 1 T.f_kind_fits T.d_kind_fits ["what", "of", "models"] (sp_kind_fits T) := by
  refine T.F_kind_fits.ok sc_kind_fits (fun vs H Q E h => ?_) (fun cdv A outer s H vs Q E hr h => ?_)
  · obtain ⟨what, of, l, ms, as, bs, rfl, _⟩ := h; rfl
  · obtain ⟨what, of, l, ms, as, bs, rfl, hM, k⟩ := h
    refine ⟨_, (pss_cons (ps_if (pt_cmpR op_eq (pv 0) (pe_gi rfl T.g_PLAIN) (nomark _)) (pss_one (ps_ret (pe_chain op_le op_le pe_int (pv 1) (pe_gi rfl T.g_MOST_BITS)))) pss_nil) (pss_cons (ps_if (pt_cmpR op_eq (pv 0) (pe_gi rfl T.g_SYMBOL) (nomark _)) (pss_one (ps_ret (pe_cmpR op_lt (pv 1) (pe_callB call_len_seq (by rfl) T.bl_len PySem.boot_len (pa_cons (pv 2) pa_nil)) (nomark _)))) pss_nil) (pss_cons (ps_if (pt_cmpR op_eq (pv 0) (pe_gi rfl T.g_NUMBER) (nomark _)) (pss_one (ps_ret (pe_and (pe_cmpR op_lt (pv 1) (pe_callB call_len_seq (by rfl) T.bl_len PySem.boot_len (pa_cons (pv 2) pa_nil)) (nomark _)) (pe_one (pe_cmpR op_le (pe_fld (pe_ix ix_list (pv 2) (pv 1) (fun _ _ => rfl)) rfl) (pe_gi rfl T.g_MOST_NUMBER_SYMBOLS) (nomark _)))))) pss_nil) (pss_one (ps_ret pe_bl))))), ?_⟩
    refine ⟨_, rfl, rfl, _, rfl, iteI (fun e1 => ?_) (fun n1 => ?_)⟩
    · have e : what = 1 := by omega
      subst e
      rw [wO1] at k
      refine ⟨_, rfl, _, _, rfl, rfl, _, rfl, iteD (fun h => ⟨_, _, rfl, rfl, ?_⟩) (fun h => ?_)⟩
      · rw [decide_eq_true h, Bool.true_and] at k; exact k
      · rw [decide_eq_false h, Bool.false_and] at k; exact k
    · refine ⟨_, rfl, rfl, _, rfl, iteI (fun e2 => ?_) (fun n2 => ?_)⟩
      · have e : what = 0 := by omega
        subst e
        refine ⟨_, rfl, _, rfl, _, _, rfl, .inl (SqL.of hM.lst), _, _, rfl, rfl, ?_⟩
        have e : Coder.wantOk ms 0 of = decide ((of : Int) < (((as.map V.ref).length : Nat) : Int)) := by
          rw [List.length_map, hM.la]
          unfold Coder.wantOk
          rw [if_pos rfl]
          by_cases h : of < ms.length
          · rw [List.getElem?_eq_getElem h]; simp [h]
          · rw [List.getElem?_eq_none (by omega)]; simp; omega
        rw [e] at k
        exact k
      · refine ⟨_, rfl, rfl, _, rfl, iteI (fun e3 => ?_) (fun n3 => ?_)⟩
        · have e : what = 2 := by omega
          subst e
          refine ⟨_, rfl, _, rfl, _, _, rfl, .inl (SqL.of hM.lst), _, _, rfl, rfl, _, rfl, iteD (fun h => ?_) (fun h => ?_)⟩
          · rw [List.length_map, hM.la] at h
            obtain ⟨m, a, b, dx, hm, ha, _, hb, ho, hg⟩ := hM.get (j := of) (by omega)
            refine ⟨_, rfl, _, rfl, _, _, _, _, rfl, rfl, SqL.of hM.lst, at_of rfl ha, a, _, dx, _, _, rfl, ho, T.cl_Model, T.n_Model_symbols, mf_symbols _ _, _, _, rfl, rfl, ?_⟩
            have e : Coder.wantOk ms 2 of = decide ((m.n : Int) ≤ 52) := by
              have e2 : decide ((m.n : Int) ≤ 52) = decide (m.n ≤ Coder.BITS) := decide_eq_decide.mpr (by unfold Coder.BITS; omega)
              rw [e2]
              unfold Coder.wantOk
              rw [hm]
              simp
            rw [e] at k
            exact k
          · rw [List.length_map, hM.la] at h
            have e : Coder.wantOk ms 2 of = false := by
              unfold Coder.wantOk
              rw [List.getElem?_eq_none (by omega)]
              simp
            rw [e] at k
            exact k
        · have e : Coder.wantOk ms what of = false := by
            unfold Coder.wantOk
            rw [if_neg (by omega), if_neg (by omega)]
            have : (what == 2) = false := by simp; omega
            rw [this]; rfl
          rw [e] at k
          exact k
def sp_value_fits (T : Txt K mg) : Sp := fun vs H Q _ => ∃ (what of value : Nat) (l : Addr) (ms : Models) (as bs : List Addr), vs = [iV what, iV of, iV value, .ref l] ∧ ModelsAt T H l ms as bs ∧ Coder.wantOk ms what of = true ∧ Q (.bl (valOk ms what of value)) H
theorem want_lt {ms : Models} {what of : Nat} (h : Coder.wantOk ms what of = true) (n1 : ¬ what = 1) : of < ms.length := by
  unfold Coder.wantOk at h
  by_cases h0 : what = 0
  · rw [if_pos h0] at h
    by_cases hl : of < ms.length
    · exact hl
    · rw [List.getElem?_eq_none (by omega)] at h; simp at h
  · rw [if_neg h0, if_neg n1] at h
    by_cases hl : of < ms.length
    · exact hl
    · rw [List.getElem?_eq_none (by omega)] at h; simp at h
theorem want_bits {ms : Models} {of : Nat} (h : Coder.wantOk ms 1 of = true) : 1 ≤ of ∧ of ≤ 52 := by
  unfold Coder.wantOk at h
  simp at h
  exact ⟨h.1, h.2⟩
theorem ok_value_fits (T : Txt K mg) : FnOk P w K mg base CX0 2 T.f_value_fits T.d_value_fits ["what", "of", "value", "models"] (sp_value_fits T) := by
  refine T.F_value_fits.ok sc_value_fits (fun vs H Q E h => ?_) (fun cdv A outer s H vs Q E hr h => ?_)
  · obtain ⟨what, of, value, l, ms, as, bs, rfl, _⟩ := h; rfl
  · obtain ⟨what, of, value, l, ms, as, bs, rfl, hM, hw, k⟩ := h
    refine ⟨_, (pss_cons (ps_if (pt_cmpR op_eq (pv 0) (pe_gi rfl T.g_PLAIN) (nomark _)) (pss_one (ps_ret (pe_cmpR op_lt (pv 2) (pe_op op_shl pe_int (pv 1)) (nomark _)))) pss_nil) (pss_cons (ps_set (i := 4) sc_value_fits.nd rfl (Or.inl rfl) (pe_ifExp (pt_cmpR op_eq (pv 0) (pe_gi rfl T.g_NUMBER) (nomark _)) (pe_call (ok_number_class T) (hr.mono (by decide)) rfl T.m_number_class T.F_number_class.kp T.b_number_class .nil pass0 (pa_cons (pv 2) pa_nil)) (pv 2))) (pss_one (ps_ret (pe_cmpR op_lt (pv 4) (pe_fld (pe_ix ix_list (pv 3) (pv 1) (fun _ _ => rfl)) rfl) (nomark _)))))), ?_⟩
    refine ⟨_, rfl, rfl, _, rfl, iteI (fun e1 => ?_) (fun n1 => ?_)⟩
    · have e : what = 1 := by omega
      subst e
      have hb := want_bits hw
      refine ⟨_, rfl, _, rfl, _, _, rfl, rfl, ⟨by omega, by omega, by decide⟩, _, _, rfl, rfl, ?_⟩
      have e : valOk ms 1 of value = decide ((value : Int) < 1 * 2 ^ (of : Int).toNat) := by
        unfold valOk
        rw [if_pos rfl, Int.toNat_natCast, Int.one_mul]
        refine decide_eq_decide.mpr ?_
        rw [show ((2 : Int) ^ of) = ((2 ^ of : Nat) : Int) by simp]
        omega
      rw [e] at k
      exact k
    · obtain ⟨m, a, b, dx, hm, ha, _, hb, ho, hg⟩ := hM.get (want_lt hw (by omega))
      refine ⟨_, rfl, rfl, _, rfl, iteI (fun e2 => ?_) (fun n2 => ?_)⟩
      · have e : what = 2 := by omega
        subst e
        refine ⟨_, rfl, value, rfl, ?_⟩
        refine ⟨_, rfl, _, rfl, _, rfl, _, _, _, _, rfl, rfl, SqL.of hM.lst, at_of rfl ha, a, _, dx, _, _, rfl, ho, T.cl_Model, T.n_Model_symbols, mf_symbols _ _, _, _, rfl, rfl, ?_⟩
        have e : valOk ms 2 of value = decide ((((value + 1).log2 : Nat) : Int) < (m.n : Int)) := by
          unfold valOk
          rw [hm]
          simp
        rw [e] at k
        exact k
      · refine ⟨_, rfl, ?_⟩
        refine ⟨_, rfl, _, rfl, _, rfl, _, _, _, _, rfl, rfl, SqL.of hM.lst, at_of rfl ha, a, _, dx, _, _, rfl, ho, T.cl_Model, T.n_Model_symbols, mf_symbols _ _, _, _, rfl, rfl, ?_⟩
        have e : valOk ms what of value = decide ((value : Int) < (m.n : Int)) := by
          unfold valOk
          rw [hm, if_neg (by omega)]
          have : ¬ what = 2 := by omega
          simp [this]
        rw [e] at k
        exact k
def sp_item_fits (T : Txt K mg) : Sp := fun vs H Q _ => ∃ (what of value : Nat) (l : Addr) (ms : Models) (as bs : List Addr), vs = [iV what, iV of, iV value, .ref l] ∧ ModelsAt T H l ms as bs ∧ Q (.bl (Coder.itemsOf ms what of value).isSome) H
theorem ok_item_fits (T : Txt K mg) : FnOk P w K mg base CX0 3 T.f_item_fits T.d_item_fits ["what", "of", "value", "models"] (sp_item_fits T) := by
  refine T.F_item_fits.ok sc_item_fits (fun vs H Q E h => ?_) (fun cdv A outer s H vs Q E hr h => ?_)
  · obtain ⟨what, of, value, l, ms, as, bs, rfl, _⟩ := h; rfl
  · obtain ⟨what, of, value, l, ms, as, bs, rfl, hM, k⟩ := h
    refine ⟨_, (pss_one (ps_ret (pe_and (pe_call (ok_kind_fits T) (hr.mono (by decide)) rfl T.m_kind_fits T.F_kind_fits.kp T.b_kind_fits .nil pass0 (pa_cons (pv 0) (pa_cons (pv 1) (pa_cons (pv 3) pa_nil)))) (pe_one (pe_call (ok_value_fits T) (hr.mono (by decide)) rfl T.m_value_fits T.F_value_fits.kp T.b_value_fits .nil pass0 (pa_cons (pv 0) (pa_cons (pv 1) (pa_cons (pv 2) (pa_cons (pv 3) pa_nil))))))))), ?_⟩
    rw [itemsOf_ok] at k
    refine ⟨_, rfl, _, rfl, _, rfl, what, of, l, ms, as, bs, rfl, hM, _, rfl, iteB (fun h => ?_) (fun h => ?_)⟩
    · refine ⟨_, rfl, _, rfl, _, rfl, _, rfl, what, of, value, l, ms, as, bs, rfl, hM, h, ?_⟩
      rw [h, Bool.true_and] at k
      exact k
    · rw [h, Bool.false_and] at k
      exact k
end FB
end
section
namespace FB
open PySem PySem.Spec PyProof.Rows L2 FM
open LwBits (Item Models)
variable {P : Program} {w : World} {K : PySem.W.Frag} {mg : Str → Option Value} {base : Heap}
abbrev itsV (l : List Item) : List (List V) := l.map itV
def newItems (its : List Item) (H : Hp) (Q : VK) : Prop := ∀ (H' : Hp) (p : Addr), Same H H' → H p = none → TupsL H' p (itsV its) → Q (.ref p) H'
def sp_bit_pieces : Sp := fun vs H Q _ => ∃ (bits value : Nat), vs = [iV bits, iV value] ∧ bits ≤ 120 ∧ newItems (LwBits.plainParts 8 bits value) H Q
theorem mask_nat (v k : Nat) : Builtin.bitAnd (v : Int) (1 * 2 ^ (k : Int).toNat - 1) = ((v % 2 ^ k : Nat) : Int) := by
  rw [Int.one_mul, Int.toNat_natCast, Bits.bitAnd_mask k (by omega)]
  simp
theorem shr_nat (v k : Nat) : (v : Int) / 2 ^ (k : Int).toNat = ((v / 2 ^ k : Nat) : Int) := by
  rw [Int.toNat_natCast]
  simp
theorem ok_bit_pieces (T : Txt K mg) : FnOk P w K mg base CX0 1 T.f_bit_pieces T.d_bit_pieces ["bits", "value"] sp_bit_pieces := by
  refine T.F_bit_pieces.ok sc_bit_pieces (fun vs H Q E h => ?_) (fun cdv A outer s H vs Q E hr h => ?_)
  · obtain ⟨b, v, rfl, _⟩ := h; rfl
  · obtain ⟨bits, value, rfl, hb, k⟩ := h
    refine ⟨_, (pss_cons (ps_set (i := 2) sc_bit_pieces.nd rfl (Or.inl rfl) (pe_lst pa_nil)) (pss_cons (ps_while PassesOwn.never (pt_cmpR op_gt (pv 0) pe_int (nomark _)) (pss_cons (ps_set (i := 3) sc_bit_pieces.nd rfl (Or.inl rfl) (pe_callB (call_min2 rfl) (by rfl) T.bl_min PyProof.Rows.boot_min (pa_cons (pv 0) (pa_cons (pe_gi rfl T.g_PIECE_BITS) pa_nil)))) (pss_cons (ps_expr (pe_bm PySem.F.plainAttrs_list PySem.F.slot_list_append PySem.F.type_list_append mt_append (pv 2) (pa_cons (pe_tup (pa_cons (pe_gi rfl T.g_PLAIN) (pa_cons (pv 3) (pa_cons (pe_op op_and (pv 1) (pe_op op_sub (pe_op op_shl pe_int (pv 3)) pe_int)) pa_nil)))) pa_nil))) (pss_cons (ps_set (i := 1) sc_bit_pieces.nd rfl (Or.inl rfl) (pe_op op_shr (pv 1) (pv 3))) (pss_one (ps_set (i := 0) sc_bit_pieces.nd rfl (Or.inl rfl) (pe_op op_sub (pv 0) (pv 3)))))))) (pss_one (ps_ret (pv 2))))), ?_⟩
    refine ⟨Nat.zero_le _, fun p hp => ?_⟩
    refine while_by (fun σ H' => ∃ (f b v : Nat) (sz : Option V) (done : List Item) (rs : List Addr), σ = [some (iV b), some (iV v), some (.ref p), sz] ∧ b ≤ 15 * f ∧ f ≤ 8 ∧ done.length + f ≤ 8 ∧ done ++ LwBits.plainParts f b v = LwBits.plainParts 8 bits value ∧ Same H H' ∧ H' p = some (.lst (rs.map V.ref)) ∧ TupsAt H' rs (itsV done))
      (fun σ _ => match σ with | some (.int b) :: _ => b.toNat | _ => 0) ⟨8, bits, value, none, [], [], rfl, hb, Nat.le_refl _, by simp, rfl, Same.new hp, upd_same, rfl⟩ ?_ ?_
    · rintro σ H1 ⟨f, b, v, sz, done, rs, rfl, hbf, hf8, hdl, hd, sm, hl, ht⟩
      refine ⟨_, rfl, _, _, rfl, rfl, _, rfl, iteD (fun h => ?_) (fun h => ?_)⟩
      · obtain ⟨f, rfl⟩ : ∃ g, f = g + 1 := ⟨f - 1, by omega⟩
        have hm : (if (15 : Int) < (b : Int) then (15 : Int) else (b : Int)) = ((min b 15 : Nat) : Int) := by split <;> omega
        refine ⟨_, rfl, _, _, rfl, ?_⟩
        rw [hm]
        refine ⟨_, rfl, .inl ⟨rfl, _, SqL.of hl⟩, _, rfl, _, rfl, _, rfl, _, _, rfl, rfl, ⟨by omega, by omega, by decide⟩, _, _, rfl, rfl, _, _, rfl, rfl, (by show 3 ≤ sizeLine; decide), fun r hr1 => ?_⟩
        have np : p ≠ r := ne_of_none hl hr1
        refine ⟨p, rs.map V.ref, _, rfl, rfl, by rw [upd_ne np]; exact hl, ?_, ?_⟩
        · rw [List.length_map, ht.len, List.length_map]
          exact Nat.lt_of_le_of_lt (show done.length ≤ 8 by omega) (by decide)
        refine ⟨_, rfl, _, rfl, _, _, rfl, rfl, (by show (0 : Int) ≤ _; omega), ?_⟩
        refine ⟨_, rfl, _, rfl, _, _, rfl, rfl, ?_⟩
        have e0 : (b : Int) - ((min b 15 : Nat) : Int) = ((b - min b 15 : Nat) : Int) := by omega
        have hv : ¬ b = 0 := fun z => by subst z; simp at h
        rw [plainParts_turn v (by omega) hbf] at hd
        refine ⟨⟨f, b - min b 15, v / 2 ^ (min b 15), some (iV (min b 15)), done ++ [.plain (min b 15) (v % 2 ^ (min b 15))], rs ++ [r], ?_, by omega, by omega, by simp; omega, by simpa using hd, ?_, ?_, ?_⟩, ?_⟩
        · show [some (V.int ((b : Int) - ((min b 15 : Nat) : Int))), some (V.int ((v : Int) / 2 ^ ((min b 15 : Nat) : Int).toNat)), _, _] = _
          rw [e0, shr_nat]
        · intro c o e
          have hc := sm c o e
          rw [upd_ne (fun z => by subst z; rw [hp] at e; cases e), upd_ne (ne_of_none hc hr1)]
          exact hc
        · rw [upd_same]
          simp
        · have h1 : TupsAt (upd H1 r (.tup (itV (.plain (min b 15) (v % 2 ^ (min b 15)))))) (rs ++ [r]) (itsV (done ++ [.plain (min b 15) (v % 2 ^ (min b 15))])) := by
            rw [itsV, List.map_append]
            exact (ht.same (Same.new hr1)).app (.one upd_same)
          have e4 : (upd H1 r (.tup (itV (.plain (min b 15) (v % 2 ^ (min b 15)))))) = upd H1 r (.tup [.int 1, iV (min b 15), .int (Builtin.bitAnd (v : Int) (1 * 2 ^ ((min b 15 : Nat) : Int).toNat - 1))]) := by
            rw [mask_nat]
            rfl
          rw [e4] at h1
          refine h1.step fun c vs e => ?_
          rw [upd_ne (fun z => by subst z; rw [upd_ne np, hl] at e; cases e)]
          exact e
        · show ((b : Int) - ((min b 15 : Nat) : Int)).toNat < (b : Int).toNat
          omega
      · have e : b = 0 := by omega
        subst e
        rw [plainParts_zero, List.append_nil] at hd
        subst hd
        exact ⟨_, rfl, k H1 p sm hp ⟨rs, hl, ht⟩⟩
    · rintro σ H1 Q1 Q2 h ⟨v, e, i, j, e1, e2, b, e3, q⟩
      exact ⟨v, e, i, j, e1, e2, b, e3, h _ _ q⟩
def sp_item_pieces : Sp := fun vs H Q _ => ∃ (what of value : Nat), vs = [iV what, iV of, iV value] ∧ what ≤ 2 ∧ (what = 1 → of ≤ 120) ∧ (what = 2 → (value + 1).log2 ≤ 120) ∧ newItems (itemList what of value) H Q
theorem ok_item_pieces (T : Txt K mg) : FnOk P w K mg base CX0 2 T.f_item_pieces T.d_item_pieces ["what", "of", "value"] sp_item_pieces := by
  refine T.F_item_pieces.ok sc_item_pieces (fun vs H Q E h => ?_) (fun cdv A outer s H vs Q E hr h => ?_)
  · obtain ⟨a, b, c, rfl, _⟩ := h; rfl
  · obtain ⟨what, of, value, rfl, h2, hb1, hb2, k⟩ := h
    refine ⟨_, (pss_cons (ps_if (pt_cmpR op_eq (pv 0) (pe_gi rfl T.g_SYMBOL) (nomark _)) (pss_one (ps_ret (pe_lst (pa_cons (pe_tup (pa_cons (pe_gi rfl T.g_SYMBOL) (pa_cons (pv 1) (pa_cons (pv 2) pa_nil)))) pa_nil)))) pss_nil) (pss_cons (ps_if (pt_cmpR op_eq (pv 0) (pe_gi rfl T.g_PLAIN) (nomark _)) (pss_one (ps_ret (pe_call (ok_bit_pieces T) (hr.mono (by decide)) rfl T.m_bit_pieces T.F_bit_pieces.kp T.b_bit_pieces .nil pass0 (pa_cons (pv 1) (pa_cons (pv 2) pa_nil))))) pss_nil) (pss_cons (ps_set (i := 3) sc_item_pieces.nd rfl (Or.inl rfl) (pe_call (ok_number_class T) (hr.mono (by decide)) rfl T.m_number_class T.F_number_class.kp T.b_number_class .nil pass0 (pa_cons (pv 2) pa_nil))) (pss_one (ps_ret (pe_op op_cat (pe_lst (pa_cons (pe_tup (pa_cons (pe_gi rfl T.g_SYMBOL) (pa_cons (pv 1) (pa_cons (pv 3) pa_nil)))) pa_nil)) (pe_call (ok_bit_pieces T) (hr.mono (by decide)) rfl T.m_bit_pieces T.F_bit_pieces.kp T.b_bit_pieces .nil pass0 (pa_cons (pv 3) (pa_cons (pe_op op_add (pv 2) pe_int) pa_nil))))))))), ?_⟩
    refine ⟨_, rfl, rfl, _, rfl, iteI (fun e1 => ?_) (fun n1 => ?_)⟩
    · have e : what = 0 := by omega
      subst e
      refine ⟨_, rfl, _, rfl, (by show 3 ≤ sizeLine; decide), fun r hr1 => ⟨(by show 1 ≤ sizeLine; decide), fun p hp => ?_⟩⟩
      have s1 : Same H (upd H r (.tup [.int 0, iV of, iV value])) := Same.new hr1
      refine k _ p (s1.trans (Same.new hp)) (s1.free hp) ⟨[r], upd_same, .one ?_⟩
      rw [upd_ne (ne_of_none upd_same hp), upd_same]
      rfl
    · refine ⟨_, rfl, rfl, _, rfl, iteI (fun e2 => ?_) (fun n2 => ?_)⟩
      · have e : what = 1 := by omega
        subst e
        exact ⟨_, rfl, _, rfl, of, value, rfl, hb1 rfl, k⟩
      · have e : what = 2 := by omega
        subst e
        refine ⟨_, rfl, value, rfl, ?_⟩
        refine ⟨_, rfl, _, rfl, (by show 3 ≤ sizeLine; decide), fun r hr1 => ⟨(by show 1 ≤ sizeLine; decide), fun p hp => ?_⟩⟩
        have s1 : Same H (upd H r (.tup [.int 0, iV of, iV (value + 1).log2])) := Same.new hr1
        have s2 := s1.trans (Same.new (o := .lst [.ref r]) hp)
        refine ⟨_, rfl, _, rfl, _, _, rfl, rfl, (value + 1).log2, value + 1, rfl, hb2 rfl, fun H' q s3 hq ⟨rs, hl, ht⟩ => ?_⟩
        have hp' := s3 p _ upd_same
        have hr' : H' r = some (.tup [.int 0, iV of, iV (value + 1).log2]) := s3 r _ (by rw [upd_ne (ne_of_none upd_same hp), upd_same])
        refine ⟨p, q, _, _, rfl, rfl, hp', hl, ?_, fun z hz => ?_⟩
        · have := plainParts_len 8 (value + 1).log2 (value + 1)
          rw [List.length_map, ht.len, List.length_map]
          exact Nat.le_trans (show 1 + _ ≤ 9 by omega) (by decide)
        have s4 : Same H' (upd H' z (.lst ([V.ref r] ++ rs.map V.ref))) := Same.new hz
        refine k _ z ((s2.trans s3).trans s4) (s2.free (s3.free hz)) ⟨r :: rs, upd_same, ?_⟩
        unfold itemList
        rw [if_neg (by decide), if_neg (by decide)]
        unfold LwBits.numberItems
        rw [plainParts_mod]
        exact ((TupsAt.one (vs := itV (.sym of (value + 1).log2)) hr').app ht).same s4
theorem zip3_go {H : Hp} {a b c : Addr} {ts : List (Nat × Nat × Nat)} {i : Nat} (hi : i < ts.length) (h1 : SqL K H a (nV (stepV (flat3 ts) 0 3))) (h2 : SqL K H b (nV (stepV (flat3 ts) 1 3))) (h3 : SqL K H c (nV (stepV (flat3 ts) 2 3))) :
    (Itz3 K a b c).go i H ∧ ∀ x H', (Itz3 K a b c).yld i H x H' → ∃ (r : Addr) (t : Nat × Nat × Nat), ts[i]? = some t ∧ x = .ref r ∧ H r = none ∧ H' = upd H r (.tup [iV t.1, iV t.2.1, iV t.2.2]) := by
  have e := List.getElem?_eq_getElem hi
  obtain ⟨g1, g2, g3⟩ := flat3_get ts i _ e
  have hl := flat3_len ts
  have k1 : (nV (stepV (flat3 ts) 0 3))[i]? = some (iV (ts[i]).1) := by
    rw [nV, List.getElem?_map, stepV_get _ (by decide) (by omega), g1]; rfl
  have k2 : (nV (stepV (flat3 ts) 1 3))[i]? = some (iV (ts[i]).2.1) := by
    rw [nV, List.getElem?_map, stepV_get _ (by decide) (by omega), g2]; rfl
  have k3 : (nV (stepV (flat3 ts) 2 3))[i]? = some (iV (ts[i]).2.2) := by
    rw [nV, List.getElem?_map, stepV_get _ (by decide) (by omega), g3]; rfl
  refine ⟨⟨_, _, _, _, _, _, h1, h2, h3, k1, k2, k3⟩, ?_⟩
  rintro x H' ⟨r, x1, y1, z1, rfl, hr, rfl, f1, f2, f3⟩
  refine ⟨r, ts[i], e, rfl, hr, ?_⟩
  have q1 := (f1 _ h1).symm.trans k1
  have q2 := (f2 _ h2).symm.trans k2
  have q3 := (f3 _ h3).symm.trans k3
  cases q1; cases q2; cases q3
  rfl
theorem zip3_stop {H : Hp} {a b c : Addr} {ts : List (Nat × Nat × Nat)} (h1 : SqL K H a (nV (stepV (flat3 ts) 0 3))) : (Itz3 K a b c).stop ts.length H := by
  refine ⟨_, h1, ?_⟩
  have hl := flat3_len ts
  rw [nV, List.length_map, stepV_length _ (by decide)]
  omega
theorem sl3 (l : List Nat) (a k : Nat) : stepV (nV l) a k = nV (stepV l a k) := stepV_map _ _ _ _
def sp_items_fit (T : Txt K mg) : Sp := fun vs H Q _ => ∃ (q l : Addr) (ns : List Nat) (ms : Models) (as bs : List Addr), vs = [.ref q, .ref l] ∧ SqL K H q (nV ns) ∧ ModelsAt T H l ms as bs ∧ ∀ H', Same H H' → Q (.bl (Coder.itemsIn ms ns).isSome) H'
theorem ModelsAt.same {T : Txt K mg} {H H' : Hp} {l : Addr} {ms : Models} {as bs : List Addr} (M : ModelsAt T H l ms as bs) (s : Same H H') : ModelsAt T H' l ms as bs :=
  ⟨s _ _ M.lst, M.na, M.nb, M.la, M.lb, fun j m h => let ⟨a, b, h1, h2, ⟨dx, h3⟩, h4⟩ := M.at_ j m h; ⟨a, b, h1, h2, ⟨dx, s _ _ h3⟩, s _ _ h4⟩⟩
theorem ok_items_fit (T : Txt K mg) : FnOk P w K mg base CX0 4 T.f_items_fit T.d_items_fit ["numbers", "models"] (sp_items_fit T) := by
  refine T.F_items_fit.ok sc_items_fit (fun vs H Q E h => ?_) (fun cdv A outer s H vs Q E hr h => ?_)
  · obtain ⟨q, l, ns, ms, as, bs, rfl, _⟩ := h; rfl
  · obtain ⟨q, l, ns, ms, as, bs, rfl, hq, hM, k⟩ := h
    refine ⟨_, (pss_cons (ps_if (pt_cmpR op_ne (pe_op op_mod (pe_callB call_len_seq (by rfl) T.bl_len PySem.boot_len (pa_cons (pv 0) pa_nil)) pe_int) pe_int (nomark _)) (pss_one (ps_ret pe_bl)) pss_nil) (pss_cons (ps_for PassesOwn.never rfl (pi_zip3 rfl T.bl_zip (pa_cons (pe_sliceK (pv 0) (po_some pe_int) (po_some pe_int)) (pa_cons (pe_sliceK (pv 0) (po_some pe_int) (po_some pe_int)) (pa_cons (pe_sliceK (pv 0) (po_some pe_int) (po_some pe_int)) pa_nil)))) (pg_tup rfl (pgs_cons (pg_name (i := 2) sc_items_fit.nd rfl (Or.inl rfl)) (pgs_cons (pg_name (i := 3) sc_items_fit.nd rfl (Or.inl rfl)) (pgs_cons (pg_name (i := 4) sc_items_fit.nd rfl (Or.inl rfl)) pgs_nil)))) (pss_one (ps_if (pt_not (pt_val (pe_call (ok_item_fits T) (hr.mono (by decide)) rfl T.m_item_fits T.F_item_fits.kp T.b_item_fits .nil pass0 (pa_cons (pv 2) (pa_cons (pv 3) (pa_cons (pv 4) (pa_cons (pv 1) pa_nil))))))) (pss_one (ps_ret pe_bl)) pss_nil))) (pss_one (ps_ret pe_bl)))), ?_⟩
    refine ⟨_, rfl, _, _, rfl, .inl hq, _, _, rfl, rfl, (by show (0 : Int) < 3; decide), rfl, _, rfl, iteI' (fun h => ?_) (fun h => ?_)⟩
    · rw [List.length_map] at h
      rw [itemsIn_odd ms ns.length ns rfl (by omega)] at k
      exact k H (Same.refl H)
    · rw [List.length_map] at h
      obtain ⟨ts, ets, hts⟩ := flat3_of (ns.length / 3) ns (by omega)
      subst ets
      refine ⟨_, rfl, _, rfl, _, rfl, q, _, 0, 3, rfl, rfl, rfl, by decide, hq, fun p1 hp1 => ?_⟩
      rw [sl3]
      have s1 := Same.new (o := .lst (nV (stepV (flat3 ts) 0 3))) hp1
      refine ⟨_, rfl, _, rfl, _, rfl, q, _, 1, 3, rfl, rfl, rfl, by decide, s1.seq hq, fun p2 hp2 => ?_⟩
      rw [sl3]
      have s2 := s1.trans (Same.new (o := .lst (nV (stepV (flat3 ts) 1 3))) hp2)
      refine ⟨_, rfl, _, rfl, _, rfl, q, _, 2, 3, rfl, rfl, rfl, by decide, s2.seq hq, fun p3 hp3 => ?_⟩
      rw [sl3]
      have s3 := s2.trans (Same.new (o := .lst (nV (stepV (flat3 ts) 2 3))) hp3)
      have k1 := Same.new (o := .lst (nV (stepV (flat3 ts) 2 3))) hp3 p1 _ (by rw [upd_ne (ne_of_none upd_same hp2), upd_same])
      have k2 := Same.new (o := .lst (nV (stepV (flat3 ts) 2 3))) hp3 p2 _ upd_same
      refine ⟨p1, p2, p3, _, _, _, rfl, SqL.of k1, SqL.of k2, SqL.of upd_same, ?_⟩
      rw [itemsIn_flat3, itemsT_ok] at k
      refine for_it (n := ts.length) (fun i σ H' => ∃ v2 v3 v4, σ = [some (.ref q), some (.ref l), v2, v3, v4] ∧ Same H H' ∧ H' p1 = some (.lst (nV (stepV (flat3 ts) 0 3))) ∧ H' p2 = some (.lst (nV (stepV (flat3 ts) 1 3))) ∧ H' p3 = some (.lst (nV (stepV (flat3 ts) 2 3))) ∧ ∀ j t, j < i → ts[j]? = some t → (Coder.itemsOf ms t.1 t.2.1 t.2.2).isSome = true)
        ⟨_, _, _, rfl, s3, k1, k2, upd_same, fun j t h => by omega⟩ ?_ ?_ ?_ ?_
      · rintro i σ H1 hi ⟨_, _, _, _, _, h1, h2, h3, _⟩
        exact (zip3_go hi (SqL.of h1) (SqL.of h2) (SqL.of h3)).1
      · rintro σ H1 ⟨_, _, _, _, _, h1, _⟩
        exact zip3_stop (SqL.of h1)
      · rintro i x σ H1 H2 hi ⟨v2, v3, v4, rfl, sm, h1, h2, h3, hall⟩ hy
        obtain ⟨r, t, et, rfl, hr1, rfl⟩ := (zip3_go hi (SqL.of h1) (SqL.of h2) (SqL.of h3)).2 _ _ hy
        have s4 := sm.trans (Same.new (o := .tup [iV t.1, iV t.2.1, iV t.2.2]) hr1)
        have s5 : Same H1 (upd H1 r (.tup [iV t.1, iV t.2.1, iV t.2.2])) := Same.new hr1
        refine ⟨r, _, rfl, SqT.of upd_same, rfl, _, _, rfl, _, _, rfl, _, _, rfl, rfl, ?_⟩
        refine ⟨_, rfl, _, rfl, _, rfl, _, rfl, t.1, t.2.1, t.2.2, l, ms, as, bs, rfl, hM.same s4, _, rfl, iteNB (fun h => ?_) (fun h => ?_)⟩
        · have e : (ts.all fun t => (Coder.itemsOf ms t.1 t.2.1 t.2.2).isSome) = false := by
            rw [List.all_eq_false]
            exact ⟨t, List.mem_of_getElem? et, by rw [h]; simp⟩
          rw [e] at k
          exact k _ s4
        · refine ⟨_, _, _, rfl, s4, s5 _ _ h1, s5 _ _ h2, s5 _ _ h3, fun j t' hj ht' => ?_⟩
          by_cases hji : j = i
          · subst hji
            rw [et] at ht'
            cases ht'
            exact h
          · exact hall j t' (by omega) ht'
      · rintro σ H1 ⟨v2, v3, v4, rfl, sm, h1, h2, h3, hall⟩
        have e : (ts.all fun t => (Coder.itemsOf ms t.1 t.2.1 t.2.2).isSome) = true := by
          rw [List.all_eq_true]
          intro t ht
          obtain ⟨j, hj⟩ := List.getElem?_of_mem ht
          exact hall j t (List.getElem?_eq_some_iff.mp hj).1 hj
        rw [e] at k
        exact k _ sm
end FB
end
section
namespace FB
open PySem PySem.Spec PyProof.Rows L2 FM
open LwBits (Item Models)
variable {P : Program} {w : World} {K : PySem.W.Frag} {mg : Str → Option Value} {base : Heap}
theorem itemsOf_bounds {ms : Models} {what of value : Nat} (h : (Coder.itemsOf ms what of value).isSome = true) : what ≤ 2 ∧ (what = 1 → of ≤ 120) ∧ (what = 2 → (value + 1).log2 ≤ 120) := by
  rw [itemsOf_ok, Bool.and_eq_true] at h
  obtain ⟨h1, h2⟩ := h
  refine ⟨?_, fun e => ?_, fun e => ?_⟩
  · unfold Coder.wantOk at h1
    by_cases a : what = 0
    · omega
    · by_cases b : what = 1
      · omega
      · rw [if_neg a, if_neg b] at h1
        simp at h1
        omega
  · subst e
    have := want_bits h1
    omega
  · subst e
    have hl := want_lt h1 (by decide)
    unfold Coder.wantOk at h1
    unfold valOk at h2
    rw [List.getElem?_eq_getElem hl] at h1 h2
    simp at h1 h2
    have : Coder.BITS = 52 := rfl
    omega
theorem itemList_len (what of value : Nat) : (itemList what of value).length ≤ 9 := by
  unfold itemList
  have h1 := plainParts_len 8 of value
  unfold LwBits.numberItems
  have h2 := plainParts_len 8 (value + 1).log2 ((value + 1) % 2 ^ (value + 1).log2)
  split
  · simp
  · split
    · omega
    · simp only [List.length_cons]; omega
theorem flat_len : ∀ ts : List (Nat × Nat × Nat), (ts.flatMap fun t => itemList t.1 t.2.1 t.2.2).length ≤ 9 * ts.length
  | [] => by simp
  | t :: r => by
    have h1 := itemList_len t.1 t.2.1 t.2.2
    have h2 := flat_len r
    rw [List.flatMap_cons, List.length_append, List.length_cons]
    omega
theorem take_snoc {α : Type} {l : List α} {i : Nat} {x : α} (h : l[i]? = some x) : l.take (i + 1) = l.take i ++ [x] := by
  rw [List.take_add_one, h]
  rfl
def sp_all_pieces : Sp := fun vs H Q _ => ∃ (q : Addr) (ns : List Nat) (ms : Models) (its : List Item), vs = [.ref q] ∧ SqL K H q (nV ns) ∧ ns.length ≤ 5000 ∧ Coder.itemsIn ms ns = some its ∧ newItems its H Q
theorem itemsIn_three {ms : Models} {ns : List Nat} {its : List Item} (h : Coder.itemsIn ms ns = some its) : ns.length % 3 = 0 := by
  by_cases h0 : ns.length % 3 = 0
  · exact h0
  · rw [itemsIn_odd ms ns.length ns rfl h0] at h
    cases h
theorem ok_all_pieces (T : Txt K mg) : FnOk P w K mg base CX0 3 T.f_all_pieces T.d_all_pieces ["numbers"] (sp_all_pieces (K := K)) := by
  refine T.F_all_pieces.ok sc_all_pieces (fun vs H Q E h => ?_) (fun cdv A outer s H vs Q E hr h => ?_)
  · obtain ⟨q, ns, ms, its, rfl, _⟩ := h; rfl
  · obtain ⟨q, ns, ms, its, rfl, hq, hlen, hits, k⟩ := h
    refine ⟨_, (pss_cons (ps_set (i := 1) sc_all_pieces.nd rfl (Or.inl rfl) (pe_lst pa_nil)) (pss_cons (ps_for PassesOwn.never rfl (pi_zip3 rfl T.bl_zip (pa_cons (pe_sliceK (pv 0) (po_some pe_int) (po_some pe_int)) (pa_cons (pe_sliceK (pv 0) (po_some pe_int) (po_some pe_int)) (pa_cons (pe_sliceK (pv 0) (po_some pe_int) (po_some pe_int)) pa_nil)))) (pg_tup rfl (pgs_cons (pg_name (i := 2) sc_all_pieces.nd rfl (Or.inl rfl)) (pgs_cons (pg_name (i := 3) sc_all_pieces.nd rfl (Or.inl rfl)) (pgs_cons (pg_name (i := 4) sc_all_pieces.nd rfl (Or.inl rfl)) pgs_nil)))) (pss_one (ps_expr (pe_bm PySem.F.plainAttrs_list PySem.F.slot_list_extend PySem.F.type_list_extend mt_extend (pv 1) (pa_cons (pe_call (ok_item_pieces T) (hr.mono (by decide)) rfl T.m_item_pieces T.F_item_pieces.kp T.b_item_pieces .nil pass0 (pa_cons (pv 2) (pa_cons (pv 3) (pa_cons (pv 4) pa_nil)))) pa_nil))))) (pss_one (ps_ret (pv 1))))), ?_⟩
    have h3 := itemsIn_three hits
    obtain ⟨ts, ets, hts⟩ := flat3_of (ns.length / 3) ns (by omega)
    subst ets
    rw [itemsIn_flat3] at hits
    have hsome : (itemsT ms ts).isSome = true := by rw [hits]; rfl
    have hl := itemsT_list hsome
    rw [hl] at hits
    have hits := Option.some.inj hits
    subst hits
    rw [itemsT_ok, List.all_eq_true] at hsome
    refine ⟨Nat.zero_le _, fun p hp => ?_⟩
    have s0 := Same.new (o := .lst []) hp
    refine ⟨_, rfl, _, rfl, _, rfl, q, _, 0, 3, rfl, rfl, rfl, by decide, s0.seq hq, fun p1 hp1 => ?_⟩
    rw [sl3]
    have s1 := s0.trans (Same.new (o := .lst (nV (stepV (flat3 ts) 0 3))) hp1)
    refine ⟨_, rfl, _, rfl, _, rfl, q, _, 1, 3, rfl, rfl, rfl, by decide, s1.seq hq, fun p2 hp2 => ?_⟩
    rw [sl3]
    have s2 := s1.trans (Same.new (o := .lst (nV (stepV (flat3 ts) 1 3))) hp2)
    refine ⟨_, rfl, _, rfl, _, rfl, q, _, 2, 3, rfl, rfl, rfl, by decide, s2.seq hq, fun p3 hp3 => ?_⟩
    rw [sl3]
    have s3 := s2.trans (Same.new (o := .lst (nV (stepV (flat3 ts) 2 3))) hp3)
    have a1 := Same.new (H := upd H p (.lst [])) (o := .lst (nV (stepV (flat3 ts) 0 3))) hp1
    have a2 := Same.new (o := .lst (nV (stepV (flat3 ts) 1 3))) hp2
    have a3 := Same.new (o := .lst (nV (stepV (flat3 ts) 2 3))) hp3
    have k0 := a3 _ _ (a2 _ _ (a1 p _ upd_same))
    have k1 := a3 _ _ (a2 p1 _ upd_same)
    have k2 := a3 p2 _ upd_same
    refine ⟨p1, p2, p3, _, _, _, rfl, SqL.of k1, SqL.of k2, SqL.of upd_same, ?_⟩
    have n1 : p1 ≠ p := fun z => by rw [z, upd_same] at hp1; cases hp1
    have n2 : p2 ≠ p := fun z => by rw [z, a1 p _ upd_same] at hp2; cases hp2
    have n3 : p3 ≠ p := fun z => by rw [z, a2 _ _ (a1 p _ upd_same)] at hp3; cases hp3
    refine for_it (n := ts.length) (fun i σ H' => ∃ v2 v3 v4, σ = [some (.ref q), some (.ref p), v2, v3, v4] ∧ Same H H' ∧ H' p1 = some (.lst (nV (stepV (flat3 ts) 0 3))) ∧ H' p2 = some (.lst (nV (stepV (flat3 ts) 1 3))) ∧ H' p3 = some (.lst (nV (stepV (flat3 ts) 2 3))) ∧ TupsL H' p (itsV ((ts.take i).flatMap fun t => itemList t.1 t.2.1 t.2.2)))
      ⟨_, _, _, rfl, s3, k1, k2, upd_same, [], k0, rfl⟩ ?_ ?_ ?_ ?_
    · rintro i σ H1 hi ⟨_, _, _, _, _, h1, h2, h3, _⟩
      exact (zip3_go hi (SqL.of h1) (SqL.of h2) (SqL.of h3)).1
    · rintro σ H1 ⟨_, _, _, _, _, h1, _⟩
      exact zip3_stop (SqL.of h1)
    · rintro i x σ H1 H2 hi ⟨v2, v3, v4, rfl, sm, h1, h2, h3, rs, hl, ht⟩ hy
      obtain ⟨r, t, et, rfl, hr1, rfl⟩ := (zip3_go hi (SqL.of h1) (SqL.of h2) (SqL.of h3)).2 _ _ hy
      have s5 : Same H1 (upd H1 r (.tup [iV t.1, iV t.2.1, iV t.2.2])) := Same.new hr1
      refine ⟨r, _, rfl, SqT.of upd_same, rfl, _, _, rfl, _, _, rfl, _, _, rfl, rfl, ?_⟩
      obtain ⟨b1, b2, b3⟩ := itemsOf_bounds (hsome t (List.mem_of_getElem? et))
      refine ⟨_, rfl, .inl ⟨rfl, _, SqL.of (s5 _ _ hl)⟩, _, rfl, _, rfl, _, rfl, t.1, t.2.1, t.2.2, rfl, b1, b2, b3, fun H3 z s6 hz ⟨rs', hl', ht'⟩ => ?_⟩
      have s7 := s5.trans s6
      have hb := flat_len (ts.take i)
      have hc := itemList_len t.1 t.2.1 t.2.2
      have hlt := (ht.len).trans (List.length_map _)
      have hlt' := (ht'.len).trans (List.length_map _)
      refine ⟨p, z, _, _, rfl, rfl, s7 _ _ hl, hl', ?_, ?_⟩
      · rw [List.length_map, List.length_map, hlt, hlt']
        rw [List.length_take] at hb
        rw [flat3_len] at hlen
        refine Nat.le_trans (show _ ≤ 20000 by omega) (by decide)
      · have kk : ∀ (b : Addr) (o : HO), H1 b = some o → b ≠ p → (upd H3 p (.lst (rs.map V.ref ++ rs'.map V.ref))) b = some o := fun b o e n => by
          rw [upd_ne n]; exact s7 _ _ e
        refine ⟨_, _, _, rfl, fun b o e => kk b o (sm b o e) (ne_of_none e hp), kk _ _ h1 n1, kk _ _ h2 n2, kk _ _ h3 n3, rs ++ rs', ?_, ?_⟩
        · rw [upd_same, List.map_append]
        · rw [take_snoc et, List.flatMap_append, itsV, List.map_append]
          have q1 : TupsAt H3 (rs ++ rs') (itsV ((ts.take i).flatMap fun t => itemList t.1 t.2.1 t.2.2) ++ itsV (itemList t.1 t.2.1 t.2.2)) := (ht.same s7).app ht'
          have q2 : TupsAt (upd H3 p (.lst (rs.map V.ref ++ rs'.map V.ref))) (rs ++ rs') (itsV ((ts.take i).flatMap fun t => itemList t.1 t.2.1 t.2.2) ++ itsV (itemList t.1 t.2.1 t.2.2)) := by
            refine q1.step fun c vs e => ?_
            rw [upd_ne (fun z => by subst z; rw [s7 _ _ hl] at e; cases e)]
            exact e
          simpa using q2
    · rintro σ H1 ⟨v2, v3, v4, rfl, sm, h1, h2, h3, hT⟩
      rw [List.take_length] at hT
      exact ⟨_, rfl, k H1 p sm hp hT⟩
end FB
end
section
namespace FB
open PySem PySem.Spec PyProof.Rows L2 FM
open LwBits (Item Models)
variable {P : Program} {w : World} {K : PySem.W.Frag} {mg : Str → Option Value} {base : Heap}
def sp_Model_init (T : Txt K mg) : Sp := fun vs H Q _ => ∃ (p dx : Addr) (n slow : Nat), vs = [.ref p, iV n, iV slow] ∧ H p = some (.ins T.C_Model dx []) ∧ 0 < n ∧ n ≤ 64 ∧
  ∀ (H' : Hp) (lb : Addr), H lb = none → ModelAt T H' p lb (LwBits.even n slow) → Kp [p] H H' → Q .non H'
theorem ok_Model___init__ (T : Txt K mg) : FnOk P w K mg base CX0 1 T.f_Model___init__ T.d_Model___init__ ["self", "symbols", "slowness"] (sp_Model_init T) := by
  refine T.F_Model___init__.ok sc_Model___init__ (fun vs H Q E h => ?_) (fun cdv A outer s H vs Q E hr h => ?_)
  · obtain ⟨p, dx, n, slow, rfl, _⟩ := h; rfl
  · obtain ⟨p, dx, n, slow, rfl, hp, hn, hn64, k⟩ := h
    refine ⟨_, (pss_cons (ps_fld (pv 0) (pv 1) rfl) (pss_cons (ps_fld (pv 0) (pv 2) rfl) (pss_cons (ps_fld (pv 0) pe_int rfl) (pss_one (ps_fld (pv 0) (pe_lc (own := [("i", 3)]) rfl sc_Model___init__.nd (pi_range1 rfl T.bl_range (pa_cons (pv 1) pa_nil)) (blkOk_by (show blkC ["self", "symbols", "slowness", "i"] (defScope s_Model___init__) _ _ = true by decide +kernel)) (fun _ _ _ _ _ => by exact (pg_name (i := 3) sc_Model___init__.nd rfl (Or.inl rfl))) (fun _ _ _ _ _ => by exact pts_nil) (fun _ _ _ _ _ => by exact (pe_op op_fdiv (pe_op op_mul (pe_gi rfl T.g_PLACES) (pv 3)) (pv 1)))) rfl))))), ?_⟩
    refine ⟨_, rfl, _, rfl, p, _, dx, _, rfl, hp, T.cl_Model, T.n_Model_symbols, (by show 0 < 1000; decide), ?_⟩
    refine ⟨_, rfl, _, rfl, p, _, dx, _, rfl, upd_same, T.cl_Model, T.n_Model_slowness, (by show 1 < 1000; decide), ?_⟩
    refine ⟨_, rfl, p, _, dx, _, rfl, upd_same, T.cl_Model, T.n_Model_seen, (by show 2 < 1000; decide), ?_⟩
    rw [upd_upd, upd_upd]
    refine ⟨_, rfl, (n : Int), rfl, by omega, by omega, fun D hD => ?_⟩
    have hDn : H D = none := by
      have := hD
      rw [upd_ne (fun z => by rw [z, upd_same] at hD; cases hD)] at this
      exact this
    have hDp : D ≠ p := fun z => by rw [z, upd_same] at hD; cases hD
    rw [Int.toNat_natCast]
    refine lc_range0 (n := n) (fun i H' => H' = upd (upd H p (.ins T.C_Model dx [("symbols", iV n), ("slowness", iV slow), ("seen", iV 0)])) D (.lst (nV ((List.range i).map fun j => j * LwBits.ALL / n)))) rfl ?_ ?_
    · rintro i H' hi rfl
      refine ⟨rfl, ?_⟩
      refine ⟨_, rfl, _, _, rfl, rfl, .inl ⟨by decide, by decide⟩, _, rfl, _, _, rfl, rfl, ⟨by omega, by omega⟩, _, upd_same, ?_, ?_⟩
      · rw [List.length_map, List.length_map, List.length_range]
        exact Nat.lt_of_lt_of_le hi (Nat.le_trans hn64 (by decide))
      · rw [upd_upd]
        congr 2
        rw [List.range_succ, List.map_append, nV_app]
        congr 1
        show [V.int (32768 * (0 + (i : Int)) / (n : Int))] = [V.int (((i * LwBits.ALL / n : Nat)) : Int)]
        have e : (32768 * (0 + (i : Int))) = ((i * LwBits.ALL : Nat) : Int) := by unfold LwBits.ALL; omega
        rw [e]
        rfl
    · rintro H' rfl
      refine ⟨_, rfl, p, _, dx, _, rfl, (by rw [upd_ne (Ne.symm hDp), upd_same]), T.cl_Model, T.n_Model_begins, (by show 3 < 1000; decide), ?_⟩
      refine k _ D hDn ⟨⟨dx, ?_⟩, ?_⟩ ?_
      · rw [upd_same]
        congr 2
        unfold mf
        rw [even_n]
        rfl
      · rw [upd_ne hDp, upd_same]
        rfl
      · intro b o e hb
        have hb : b ≠ p := by simpa using hb
        rw [upd_ne hb, upd_ne (ne_of_none e hDn), upd_ne hb]
        exact e
def newTup (vs : List V) (H : Hp) (Q : VK) : Prop := ∀ (H' : Hp) (r : Addr), Same H H' → H r = none → H' r = some (.tup vs) → Q (.ref r) H'
def sp_Model_share (T : Txt K mg) : Sp := fun vs H Q _ => ∃ (a lb : Addr) (m : SModel) (s : Nat), vs = [.ref a, iV s] ∧ ModelAt T H a lb m ∧ MOk m ∧ s < m.n ∧ newTup [iV (m.begin_ s), iV (m.share s)] H Q
theorem nV_get {l : List Nat} {i : Nat} (h : i < l.length) : (nV l)[i]? = some (iV (l.getD i 0)) := by
  rw [nV, List.getElem?_map, List.getElem?_eq_getElem h]
  simp [List.getD, h]
theorem ok_Model_share (T : Txt K mg) : FnOk P w K mg base CX0 1 T.f_Model_share T.d_Model_share ["self", "symbol"] (sp_Model_share T) := by
  refine T.F_Model_share.ok sc_Model_share (fun vs H Q E h => ?_) (fun cdv A outer s H vs Q E hr h => ?_)
  · obtain ⟨a, lb, m, s, rfl, _⟩ := h; rfl
  · obtain ⟨a, lb, m, s, rfl, ⟨⟨dx, ho⟩, hb⟩, hm, hs, k⟩ := h
    refine ⟨_, (pss_cons (ps_set (i := 2) sc_Model_share.nd rfl (Or.inl rfl) (pe_ix ix_list (pe_fld (pv 0) rfl) (pv 1) (fun _ _ => rfl))) (pss_cons (ps_set (i := 3) sc_Model_share.nd rfl (Or.inl rfl) (pe_ifExp (pt_cmpR op_lt (pe_op op_add (pv 1) pe_int) (pe_fld (pv 0) rfl) (nomark _)) (pe_ix ix_list (pe_fld (pv 0) rfl) (pe_op op_add (pv 1) pe_int) (fun _ _ => rfl)) (pe_gi rfl T.g_PLACES))) (pss_one (ps_ret (pe_tup (pa_cons (pv 2) (pa_cons (pe_op op_sub (pv 3) (pv 2)) pa_nil))))))), ?_⟩
    have e1 : m.begin_ s = m.begins.getD s 0 := if_pos hs
    refine ⟨_, rfl, a, _, dx, _, _, rfl, ho, T.cl_Model, T.n_Model_begins, mf_begins _ _, _, rfl, lb, _, _, _, rfl, rfl, SqL.of hb, at_of rfl (nV_get hs), ?_⟩
    refine ⟨_, rfl, _, _, rfl, rfl, _, rfl, a, _, dx, _, _, rfl, ho, T.cl_Model, T.n_Model_symbols, mf_symbols _ _, _, _, rfl, rfl, _, rfl, iteD (fun h => ?_) (fun h => ?_)⟩
    · have h1 : s + 1 < m.n := by omega
      have e2 : m.begin_ (s + 1) = m.begins.getD (s + 1) 0 := if_pos h1
      have lt := hm.begin_lt hs
      refine ⟨_, rfl, a, _, dx, _, _, rfl, ho, T.cl_Model, T.n_Model_begins, mf_begins _ _, _, rfl, _, _, rfl, rfl, lb, _, _, _, rfl, rfl, SqL.of hb, at_of (j := s + 1) (by omega) (nV_get h1), ?_⟩
      refine ⟨_, rfl, _, rfl, _, rfl, _, _, rfl, rfl, (by show 2 ≤ sizeLine; decide), fun r hr1 => k _ r (Same.new hr1) hr1 ?_⟩
      rw [upd_same, e1]
      show some (HO.tup [iV _, V.int ((m.begins.getD (s + 1) 0 : Nat) - (m.begins.getD s 0 : Nat))]) = _
      congr 4
      congr 1
      show ((m.begins.getD (s + 1) 0 : Nat) : Int) - (m.begins.getD s 0 : Nat) = ((m.begin_ (s + 1) - m.begin_ s : Nat) : Int)
      omega
    · have h1 : ¬ s + 1 < m.n := by omega
      have e2 : m.begin_ (s + 1) = LwBits.ALL := if_neg h1
      have lt := hm.begin_lt hs
      refine ⟨_, rfl, _, rfl, _, rfl, _, _, rfl, rfl, (by show 2 ≤ sizeLine; decide), fun r hr1 => k _ r (Same.new hr1) hr1 ?_⟩
      rw [upd_same, e1]
      show some (HO.tup [iV _, V.int (32768 - (m.begins.getD s 0 : Nat))]) = _
      congr 4
      congr 1
      show 32768 - ((m.begins.getD s 0 : Nat) : Int) = ((m.begin_ (s + 1) - m.begin_ s : Nat) : Int)
      have : LwBits.ALL = 32768 := rfl
      omega
def sp_Model_rate (T : Txt K mg) : Sp := fun vs H Q _ => ∃ (a lb : Addr) (m : SModel), vs = [.ref a] ∧ ModelAt T H a lb m ∧ Q (iV m.rate) H
theorem ok_Model_rate (T : Txt K mg) : FnOk P w K mg base CX0 1 T.f_Model_rate T.d_Model_rate ["self"] (sp_Model_rate T) := by
  refine T.F_Model_rate.ok sc_Model_rate (fun vs H Q E h => ?_) (fun cdv A outer s H vs Q E hr h => ?_)
  · obtain ⟨a, lb, m, rfl, _⟩ := h; rfl
  · obtain ⟨a, lb, m, rfl, ⟨⟨dx, ho⟩, hb⟩, k⟩ := h
    refine ⟨_, (pss_one (ps_ret (pe_callB (call_min2 rfl) (by rfl) T.bl_min PyProof.Rows.boot_min (pa_cons (pe_bits (pe_op op_add (pe_fld (pv 0) rfl) pe_int)) (pa_cons (pe_fld (pv 0) rfl) pa_nil))))), ?_⟩
    refine ⟨_, rfl, a, _, dx, _, _, rfl, ho, T.cl_Model, T.n_Model_seen, mf_seen _ _, _, _, rfl, rfl, rfl, _, rfl, rfl, _, rfl, a, _, dx, _, _, rfl, ho, T.cl_Model, T.n_Model_slowness, mf_slowness _ _, _, _, rfl, ?_⟩
    have e : ((m.seen : Nat) : Int) + 2 = ((m.seen + 1 : Nat) : Int) + 1 := by omega
    rw [e, bits_log]
    have hx : (m.seen + 1 + 1).log2 = (m.seen + 2).log2 := rfl
    rw [hx]
    have e2 : (if ((m.slow : Nat) : Int) < ((m.seen + 2).log2 : Nat) + 1 then ((m.slow : Nat) : Int) else ((m.seen + 2).log2 : Nat) + 1) = ((m.rate : Nat) : Int) := by
      unfold LwBits.Model.rate
      split <;> omega
    rw [e2]
    exact k
def sp_Model_see (T : Txt K mg) : Sp := fun vs H Q _ => ∃ (a lb : Addr) (m : SModel) (s : Nat), vs = [.ref a, iV s] ∧ ModelAt T H a lb m ∧ MOk m ∧ ∀ H', ModelAt T H' a lb (m.saw s) → Kp [a, lb] H H' → Q .non H'
def half (m : SModel) (s i : Nat) : List Nat := (List.range m.n).map fun j => if j < i then sawB m s j else m.begins.getD j 0
theorem half_len (m : SModel) (s i : Nat) : (half m s i).length = m.n := by simp [half]
theorem half_get {m : SModel} {s i j : Nat} (h : j < m.n) : (half m s i).getD j 0 = if j < i then sawB m s j else m.begins.getD j 0 := by
  simp [half, List.getD, h]
theorem half_start {m : SModel} (h : MOk m) (s : Nat) : half m s 1 = m.begins := by
  refine List.ext_getElem? fun j => ?_
  by_cases hj : j < m.n
  · have e : (half m s 1)[j]? = some ((half m s 1).getD j 0) := by simp [List.getD, half, hj]
    have e2 : m.begins[j]? = some (m.begins.getD j 0) := by
      have hj' : j < m.begins.length := hj
      simp [List.getD, hj']
    rw [e, e2, half_get hj]
    by_cases h0 : j = 0
    · subst h0; rw [if_pos (by omega), h.zero]; rfl
    · rw [if_neg (by omega)]
  · rw [List.getElem?_eq_none (by rw [half_len]; omega), List.getElem?_eq_none (show m.begins.length ≤ j by unfold LwBits.Model.n at hj; omega)]
theorem half_end (m : SModel) (s : Nat) : half m s m.n = (m.saw s).begins := by
  rw [saw_begins]
  refine List.map_congr_left fun j hj => ?_
  rw [if_pos (List.mem_range.mp hj)]
theorem half_step {m : SModel} {s i : Nat} (h : i < m.n) : (half m s i).set i (sawB m s i) = half m s (i + 1) := by
  refine List.ext_getElem? fun j => ?_
  by_cases hj : j < m.n
  · by_cases e : j = i
    · subst e
      rw [List.getElem?_set_self (by rw [half_len]; exact h)]
      simp [half, h]
    · rw [List.getElem?_set_ne (fun z => e z.symm)]
      simp only [half, List.getElem?_map, List.getElem?_range hj, Option.map_some]
      congr 1
      by_cases h1 : j < i
      · rw [if_pos h1, if_pos (by omega)]
      · rw [if_neg h1, if_neg (by omega)]
  · rw [List.getElem?_eq_none (by rw [List.length_set, half_len]; omega), List.getElem?_eq_none (by rw [half_len]; omega)]
theorem rate_lt {m : SModel} (h : MOk m) : m.rate ≤ 9 := Nat.le_trans (Nat.min_le_left _ _) h.s9
theorem ok_Model_see (T : Txt K mg) : FnOk P w K mg base CX0 2 T.f_Model_see T.d_Model_see ["self", "symbol"] (sp_Model_see T) := by
  refine T.F_Model_see.ok sc_Model_see (fun vs H Q E h => ?_) (fun cdv A outer s H vs Q E hr h => ?_)
  · obtain ⟨a, lb, m, s, rfl, _⟩ := h; rfl
  · obtain ⟨a, lb, m, s, rfl, hM, hm, k⟩ := h
    obtain ⟨⟨dx, ho⟩, hb⟩ := id hM
    refine ⟨_, (pss_cons (ps_set (i := 2) sc_Model_see.nd rfl (Or.inl rfl) (pe_meth0 (pv 0) T.cl_Model T.me_Model_rate (ok_Model_rate T) (hr.mono (by decide)) T.b_Model_rate .nil pass0)) (pss_cons (ps_set (i := 3) sc_Model_see.nd rfl (Or.inl rfl) (pe_op op_sub (pe_op op_shl pe_int (pv 2)) pe_int)) (pss_cons (ps_for PassesOwn.never rfl (pi_range2 rfl T.bl_range (pa_cons pe_int (pa_cons (pe_fld (pv 0) rfl) pa_nil))) (pg_name (i := 4) sc_Model_see.nd rfl (Or.inl rfl)) (pss_cons (ps_set (i := 5) sc_Model_see.nd rfl (Or.inl rfl) (pe_ifExp (pt_cmpR op_le (pv 4) (pv 1) (nomark _)) (pv 4) (pe_op op_sub (pe_gi rfl T.g_PLACES) (pe_op op_sub (pe_fld (pv 0) rfl) (pv 4))))) (pss_one (ps_asg (pe_op op_shr (pe_op op_add (pe_op op_mul (pe_ix ix_list (pe_fld (pv 0) rfl) (pv 4) (fun _ _ => rfl)) (pv 3)) (pv 5)) (pv 2)) (pg_sub (pe_fld (pv 0) rfl) (pv 4) set_list))))) (pss_one (ps_fld (pv 0) (pe_callB (call_min2 rfl) (by rfl) T.bl_min PyProof.Rows.boot_min (pa_cons (pe_op op_add (pe_fld (pv 0) rfl) pe_int) (pa_cons (pe_gi rfl T.g_MOST_SEEN) pa_nil))) rfl))))), ?_⟩
    have nlb : lb ≠ a := ne_of hb ho (by intro z; cases z)
    have hrt := rate_lt hm
    have n64 := hm.n64
    refine ⟨_, rfl, a, dx, _, rfl, ho, rfl, a, lb, m, rfl, hM, ?_⟩
    refine ⟨_, rfl, _, _, rfl, rfl, ⟨by omega, by omega, by decide⟩, _, _, rfl, rfl, ?_⟩
    refine ⟨_, rfl, a, _, dx, _, _, rfl, ho, T.cl_Model, T.n_Model_symbols, mf_symbols _ _, 1, _, rfl, ⟨by decide, by decide, by omega, by omega⟩, ?_⟩
    have hkept : (1 * 2 ^ ((m.rate : Nat) : Int).toNat - 1 : Int) = ((2 ^ m.rate - 1 : Nat) : Int) := by
      rw [Int.toNat_natCast, Int.one_mul]
      have h1 : 0 < 2 ^ m.rate := Nat.two_pow_pos _
      have h2 : ((2 : Int) ^ m.rate) = ((2 ^ m.rate : Nat) : Int) := by simp
      rw [h2]
      omega
    refine for_range (n := ((m.n : Int) - 1).toNat) (fun i σ H' => ∃ v4 v5, σ = [some (.ref a), some (iV s), some (iV m.rate), some (.int (1 * 2 ^ ((m.rate : Nat) : Int).toNat - 1)), v4, v5] ∧ H' = upd H lb (.lst (nV (half m s (i + 1))))) ⟨_, _, rfl, ?_⟩ ?_ ?_
    · rw [half_start hm]
      funext b
      by_cases e : b = lb
      · subst e; rw [upd_same]; exact hb
      · rw [upd_ne e]
    · rintro i σ H' hi ⟨v4, v5, rfl, rfl⟩
      have hi1 : i + 1 < m.n := by omega
      have ho' : (upd H lb (.lst (nV (half m s (i + 1))))) a = some (.ins T.C_Model dx (mf m lb)) := by rw [upd_ne (Ne.symm nlb)]; exact ho
      refine ⟨_, rfl, _, rfl, _, _, rfl, rfl, _, rfl, iteD (fun h => ?_) (fun h => ?_)⟩
      · refine ⟨_, rfl, ?_⟩
        refine ⟨_, rfl, a, _, dx, _, _, rfl, ho', T.cl_Model, T.n_Model_begins, mf_begins _ _, _, rfl, lb, _, _, _, rfl, rfl, SqL.of upd_same, at_of (j := i + 1) (by omega) (nV_get (by rw [half_len]; exact hi1)), _, rfl, _, _, rfl, rfl, .inr ⟨?_, ?_⟩, _, rfl, _, _, rfl, rfl, _, rfl, _, _, rfl, rfl, (by show (0 : Int) ≤ _; omega), ?_⟩
        · rw [hkept]; omega
        · rw [hkept]
          have h1 : 2 ^ m.rate ≤ 2 ^ 9 := Nat.pow_le_pow_right (by decide) hrt
          omega
        refine ⟨_, rfl, a, _, dx, _, _, rfl, ho', T.cl_Model, T.n_Model_begins, mf_begins _ _, _, rfl, lb, _, _, i + 1, rfl, rfl, upd_same, ?_, ?_⟩
        · unfold ixN
          rw [if_pos (by omega), if_pos (by rw [List.length_map, half_len]; omega)]
          congr 1
          omega
        refine ⟨_, _, rfl, ?_⟩
        dsimp only
        rw [upd_upd, half_get hi1, if_neg (by omega), hkept, Int.toNat_natCast]
        congr 3
        rw [← half_step (m := m) (s := s) (i := i + 1) hi1, nV_set]
        congr 1
        show V.int _ = V.int _
        congr 1
        unfold sawB
        rw [if_neg (by omega)]
        have e3 : sawT m s (i + 1) = i + 1 := if_pos (by omega)
        rw [e3]
        have e4 : ((m.begins.getD (i + 1) 0 : Nat) : Int) * ((2 ^ m.rate - 1 : Nat) : Int) + (1 + (i : Int)) = ((m.begins.getD (i + 1) 0 * (2 ^ m.rate - 1) + (i + 1) : Nat) : Int) := by
          rw [Int.natCast_add, Int.natCast_mul]; omega
        rw [e4]
        simp
      · refine ⟨_, rfl, a, _, dx, _, _, rfl, ho', T.cl_Model, T.n_Model_symbols, mf_symbols _ _, _, rfl, _, _, rfl, rfl, _, _, rfl, rfl, ?_⟩
        refine ⟨_, rfl, a, _, dx, _, _, rfl, ho', T.cl_Model, T.n_Model_begins, mf_begins _ _, _, rfl, lb, _, _, _, rfl, rfl, SqL.of upd_same, at_of (j := i + 1) (by omega) (nV_get (by rw [half_len]; exact hi1)), _, rfl, _, _, rfl, rfl, .inr ⟨?_, ?_⟩, _, rfl, _, _, rfl, rfl, _, rfl, _, _, rfl, rfl, (by show (0 : Int) ≤ _; omega), ?_⟩
        · rw [hkept]; omega
        · rw [hkept]
          have h1 : 2 ^ m.rate ≤ 2 ^ 9 := Nat.pow_le_pow_right (by decide) hrt
          omega
        refine ⟨_, rfl, a, _, dx, _, _, rfl, ho', T.cl_Model, T.n_Model_begins, mf_begins _ _, _, rfl, lb, _, _, i + 1, rfl, rfl, upd_same, ?_, ?_⟩
        · unfold ixN
          rw [if_pos (by omega), if_pos (by rw [List.length_map, half_len]; omega)]
          congr 1
          omega
        refine ⟨_, _, rfl, ?_⟩
        dsimp only
        rw [upd_upd, half_get hi1, if_neg (by omega), hkept, Int.toNat_natCast]
        congr 3
        rw [← half_step (m := m) (s := s) (i := i + 1) hi1, nV_set]
        congr 1
        show V.int _ = V.int _
        congr 1
        unfold sawB
        rw [if_neg (by omega)]
        have hA : LwBits.ALL = 32768 := rfl
        have e3 : sawT m s (i + 1) = LwBits.ALL - (m.n - (i + 1)) := if_neg (by omega)
        rw [e3]
        have e4 : ((m.begins.getD (i + 1) 0 : Nat) : Int) * ((2 ^ m.rate - 1 : Nat) : Int) + (32768 - ((m.n : Int) - (1 + (i : Int)))) = ((m.begins.getD (i + 1) 0 * (2 ^ m.rate - 1) + (LwBits.ALL - (m.n - (i + 1))) : Nat) : Int) := by
          rw [Int.natCast_add, Int.natCast_mul]; omega
        rw [e4]
        simp
    · rintro σ H' ⟨v4, v5, rfl, rfl⟩
      have hn2 := hm.n2
      have e : ((m.n : Int) - 1).toNat + 1 = m.n := by omega
      rw [e, half_end]
      have ho' : (upd H lb (.lst (nV (m.saw s).begins))) a = some (.ins T.C_Model dx (mf m lb)) := by rw [upd_ne (Ne.symm nlb)]; exact ho
      refine ⟨_, rfl, a, _, dx, _, _, rfl, ho', T.cl_Model, T.n_Model_seen, mf_seen _ _, _, _, rfl, rfl, _, _, rfl, ?_⟩
      refine ⟨_, rfl, a, _, dx, _, rfl, ho', T.cl_Model, T.n_Model_seen, (by show 4 < 1000; decide), ?_⟩
      refine k _ ⟨⟨dx, ?_⟩, ?_⟩ ?_
      · rw [upd_same]
        congr 2
        have e5 : (if (65535 : Int) < ((m.seen : Nat) : Int) + 1 then (65535 : Int) else ((m.seen : Nat) : Int) + 1) = (((m.saw s).seen : Nat) : Int) := by
          show _ = ((min 65535 (m.seen + 1) : Nat) : Int)
          split <;> omega
        rw [e5]
        unfold mf
        rw [saw_n]
        rfl
      · rw [upd_ne nlb, upd_same]
      · intro b o e hb
        have hb : b ≠ a ∧ b ≠ lb := by simpa using hb
        rw [upd_ne hb.1, upd_ne hb.2]
        exact e
end FB
end
section
namespace FB
open PySem PySem.Spec PyProof.Rows L2 FM
open LwBits (Item Models)
variable {P : Program} {w : World} {K : PySem.W.Frag} {mg : Str → Option Value} {base : Heap}
def sp_model_fits : Sp := fun vs H Q _ => ∃ (n s : Nat), vs = [iV n, iV s] ∧ Q (.bl (mfit n s)) H
theorem ok_model_fits (T : Txt K mg) : FnOk P w K mg base CX0 1 T.f_model_fits T.d_model_fits ["symbols", "slowness"] sp_model_fits := by
  refine T.F_model_fits.ok sc_model_fits (fun vs H Q E h => ?_) (fun cdv A outer s H vs Q E hr h => ?_)
  · obtain ⟨n, s, rfl, _⟩ := h; rfl
  · obtain ⟨n, s, rfl, k⟩ := h
    refine ⟨_, (pss_one (ps_ret (pe_and (pe_chain op_le op_le (pe_gi rfl T.g_FEWEST_SYMBOLS) (pv 0) (pe_gi rfl T.g_MOST_SYMBOLS)) (pe_one (pe_chain op_le op_le (pe_gi rfl T.g_LEAST_SLOWNESS) (pv 1) (pe_gi rfl T.g_MOST_SLOWNESS)))))), ?_⟩
    have f : ∀ b : Bool, b = mfit n s → Q (.bl b) H := fun b e => by rw [e]; exact k
    have g : mfit n s = decide (2 ≤ n ∧ n ≤ 64 ∧ 2 ≤ s ∧ s ≤ 9) := rfl
    refine ⟨_, rfl, _, _, rfl, rfl, _, rfl, iteD (fun h1 => ⟨_, _, rfl, rfl, _, rfl, iteD (fun h2 => ?_) (fun h2 => ?_)⟩) (fun h1 => ⟨_, rfl, ?_⟩)⟩
    · refine ⟨_, rfl, _, _, rfl, rfl, _, rfl, iteD (fun h3 => ⟨_, _, rfl, rfl, f _ ?_⟩) (fun h3 => f _ ?_)⟩
      · rw [g]; refine decide_eq_decide.mpr ?_; omega
      · rw [g]; refine (decide_eq_false ?_).symm; omega
    · refine f _ ?_
      rw [g]; refine (decide_eq_false ?_).symm; omega
    · refine f _ ?_
      rw [g]; refine (decide_eq_false ?_).symm; omega
theorem zip2_go {H : Hp} {a b : Addr} {ts : List (Nat × Nat)} {i : Nat} (hi : i < ts.length) (h1 : SqL K H a (nV (stepV (flat2 ts) 0 2))) (h2 : SqL K H b (nV (stepV (flat2 ts) 1 2))) :
    (Itz K a b).go i H ∧ ∀ x H', (Itz K a b).yld i H x H' → ∃ (r : Addr) (t : Nat × Nat), ts[i]? = some t ∧ x = .ref r ∧ H r = none ∧ H' = upd H r (.tup [iV t.1, iV t.2]) := by
  have e := List.getElem?_eq_getElem hi
  obtain ⟨g1, g2⟩ := flat2_get ts i _ e
  have hl := flat2_len ts
  have k1 : (nV (stepV (flat2 ts) 0 2))[i]? = some (iV (ts[i]).1) := by
    rw [nV, List.getElem?_map, stepV_get _ (by decide) (by omega), g1]; rfl
  have k2 : (nV (stepV (flat2 ts) 1 2))[i]? = some (iV (ts[i]).2) := by
    rw [nV, List.getElem?_map, stepV_get _ (by decide) (by omega), g2]; rfl
  refine ⟨⟨_, _, _, _, h1, h2, k1, k2⟩, ?_⟩
  rintro x H' ⟨r, x1, y1, rfl, hr, rfl, f1, f2⟩
  refine ⟨r, ts[i], e, rfl, hr, ?_⟩
  have q1 := (f1 _ h1).symm.trans k1
  have q2 := (f2 _ h2).symm.trans k2
  cases q1; cases q2
  rfl
theorem zip2_stop {H : Hp} {a b : Addr} {ts : List (Nat × Nat)} (h1 : SqL K H a (nV (stepV (flat2 ts) 0 2))) (h2 : SqL K H b (nV (stepV (flat2 ts) 1 2))) : (Itz K a b).stop ts.length H := by
  refine ⟨_, _, h1, h2, .inl ?_⟩
  have hl := flat2_len ts
  rw [nV, List.length_map, stepV_length _ (by decide)]
  omega
theorem msOk_flat2 {ts : List (Nat × Nat)} (h0 : ts ≠ []) (h : ts.length ≤ 16) : msOk (flat2 ts) = ts.all fun t => mfit t.1 t.2 := by
  unfold msOk
  have hl := flat2_len ts
  have e : decide (flat2 ts ≠ [] ∧ (flat2 ts).length ≤ 2 * Coder.MODELS) = true := by
    refine decide_eq_true ⟨fun z => ?_, by unfold Coder.MODELS; omega⟩
    rw [z] at hl
    cases ts with
    | nil => exact h0 rfl
    | cons t r => simp at hl
  rw [e, Bool.true_and, modelsIn_flat2]
  by_cases h : (ts.all fun t => mfit t.1 t.2) = true
  · rw [if_pos h, h]; rfl
  · rw [if_neg h]
    simp only [Bool.not_eq_true] at h
    rw [h]; rfl
def sp_models_fit : Sp := fun vs H Q _ => ∃ (q : Addr) (ns : List Nat), vs = [.ref q] ∧ SqL K H q (nV ns) ∧ ∀ H', Same H H' → Q (.bl (msOk ns)) H'
theorem ok_models_fit (T : Txt K mg) : FnOk P w K mg base CX0 2 T.f_models_fit T.d_models_fit ["numbers"] (sp_models_fit (K := K)) := by
  refine T.F_models_fit.ok sc_models_fit (fun vs H Q E h => ?_) (fun cdv A outer s H vs Q E hr h => ?_)
  · obtain ⟨q, ns, rfl, _⟩ := h; rfl
  · obtain ⟨q, ns, rfl, hq, k⟩ := h
    refine ⟨_, (pss_cons (ps_if (PW.pt (pw_or (pt_cmpR op_eq (pe_callB call_len_seq (by rfl) T.bl_len PySem.boot_len (pa_cons (pv 0) pa_nil)) pe_int (nomark _)) (pw_or (pt_cmpR op_eq (pe_op op_mod (pe_callB call_len_seq (by rfl) T.bl_len PySem.boot_len (pa_cons (pv 0) pa_nil)) pe_int) pe_int (nomark _)) (pw_or1 (pt_cmpR op_gt (pe_callB call_len_seq (by rfl) T.bl_len PySem.boot_len (pa_cons (pv 0) pa_nil)) (pe_op op_mul pe_int (pe_gi rfl T.g_MOST_MODELS)) (nomark _)))))) (pss_one (ps_ret pe_bl)) pss_nil) (pss_one (ps_ret (pe_callB (cr_all rfl) (by rfl) T.bl_all PyProof.Rows.boot_all (pa_cons (pe_lc (own := [("symbols", 1), ("slowness", 2)]) rfl sc_models_fit.nd (pi_zip rfl T.bl_zip (pa_cons (pe_sliceK (pv 0) (po_some pe_int) (po_some pe_int)) (pa_cons (pe_sliceK (pv 0) (po_some pe_int) (po_some pe_int)) pa_nil))) (blkOk_by (show blkC ["numbers", "symbols", "slowness"] (defScope s_models_fit) _ _ = true by decide +kernel)) (fun _ _ _ _ _ => by exact pg_tupK (K := K) (n := 2) rfl rfl (pgs_cons (pg_name (i := 1) sc_models_fit.nd rfl (Or.inl rfl)) (pgs_cons (pg_name (i := 2) sc_models_fit.nd rfl (Or.inl rfl)) pgs_nil))) (fun _ _ _ _ _ => by exact pts_nil) (fun _ _ _ _ _ => by exact (pe_call (ok_model_fits T) (hr.mono (by decide)) rfl T.m_model_fits T.F_model_fits.kp T.b_model_fits .nil pass0 (pa_cons (pv 1) (pa_cons (pv 2) pa_nil))))) pa_nil))))), ?_⟩
    have bad : msOk ns = false → Q (.bl false) H := fun e => by rw [← e]; exact k H (Same.refl H)
    refine ⟨_, rfl, _, _, rfl, .inl hq, rfl, _, rfl, iteI (fun h => ?_) (fun h1 => ?_)⟩
    · rw [nV_len] at h
      have e : ns = [] := List.length_eq_zero_iff.mp (by omega)
      subst e
      exact bad rfl
    refine ⟨_, rfl, _, _, rfl, .inl hq, _, _, rfl, rfl, (by show (0 : Int) < 2; decide), rfl, _, rfl, iteI (fun h => ?_) (fun h2 => ?_)⟩
    · rw [nV_len] at h
      refine bad ?_
      unfold msOk
      rw [modelsIn_odd ns.length ns rfl (by omega)]
      simp
    refine ⟨_, rfl, _, _, rfl, .inl hq, _, _, rfl, rfl, .inl ⟨by decide, by decide⟩, _, _, rfl, rfl, _, rfl, iteD (fun h => ?_) (fun h3 => ?_)⟩
    · rw [nV_len] at h
      refine bad ?_
      unfold msOk
      have e : decide (ns ≠ [] ∧ ns.length ≤ 2 * Coder.MODELS) = false := decide_eq_false fun z => by
        have := z.2
        unfold Coder.MODELS at this
        omega
      rw [e, Bool.false_and]
    rw [nV_len] at h1 h2 h3
    obtain ⟨ts, ets, hts⟩ := flat2_of (ns.length / 2) ns (by omega)
    subst ets
    have hl := flat2_len ts
    rw [msOk_flat2 (fun z => by subst z; exact h1 rfl) (by omega)] at k
    refine ⟨_, rfl, _, rfl, _, rfl, q, _, 0, 2, rfl, rfl, rfl, by decide, hq, fun p1 hp1 => ?_⟩
    rw [sl3]
    have s1 := Same.new (o := .lst (nV (stepV (flat2 ts) 0 2))) hp1
    refine ⟨_, rfl, _, rfl, _, rfl, q, _, 1, 2, rfl, rfl, rfl, by decide, s1.seq hq, fun p2 hp2 => ?_⟩
    rw [sl3]
    have a2 := Same.new (o := .lst (nV (stepV (flat2 ts) 1 2))) hp2
    have s2 := s1.trans a2
    have k1 := a2 p1 _ upd_same
    refine ⟨p1, p2, _, _, rfl, SqL.of k1, SqL.of upd_same, fun D hD => ?_⟩
    have a3 := Same.new (o := .lst []) hD
    refine lc_it0 (n := ts.length) (fun i H' => Same H H' ∧ H D = none ∧ H' p1 = some (.lst (nV (stepV (flat2 ts) 0 2))) ∧ H' p2 = some (.lst (nV (stepV (flat2 ts) 1 2))) ∧ p1 ≠ D ∧ p2 ≠ D ∧ H' D = some (.lst (((ts.take i).map fun t => mfit t.1 t.2).map V.bl)))
      ⟨s2.trans a3, s2.free hD, a3 _ _ k1, a3 _ _ upd_same, ne_of_none k1 hD, ne_of_none upd_same hD, upd_same⟩ ?_ ?_ ?_ ?_ ?_
    · rintro i H' hi ⟨_, _, g1, g2, _⟩
      exact (zip2_go hi (SqL.of g1) (SqL.of g2)).1
    · rintro H' ⟨_, _, g1, g2, _⟩
      exact zip2_stop (SqL.of g1) (SqL.of g2)
    · rintro i x H1 H2 hi ⟨sm, hDn, g1, g2, n1, n2, hD1⟩ hy
      obtain ⟨r, t, et, rfl, hr1, rfl⟩ := (zip2_go hi (SqL.of g1) (SqL.of g2)).2 _ _ hy
      have s5 : Same H1 (upd H1 r (.tup [iV t.1, iV t.2])) := Same.new hr1
      refine ⟨r, _, rfl, SqT.of upd_same, rfl, _, _, rfl, _, _, rfl, rfl, rfl, ?_⟩
      refine ⟨_, rfl, _, rfl, t.1, t.2, rfl, _, s5 _ _ hD1, ?_, ?_⟩
      · rw [List.length_map, List.length_map, List.length_take]
        exact Nat.lt_of_le_of_lt (show _ ≤ 16 by omega) (by decide)
      · refine ⟨fun b o e => ?_, hDn, ?_, ?_, n1, n2, ?_⟩
        · rw [upd_ne (ne_of_none e hDn)]; exact s5 _ _ (sm _ _ e)
        · rw [upd_ne n1]; exact s5 _ _ g1
        · rw [upd_ne n2]; exact s5 _ _ g2
        · rw [upd_same, take_snoc et, List.map_append, List.map_append]
          rfl
    · rintro H' ⟨sm, hDn, g1, g2, n1, n2, hD1⟩
      rw [List.take_length] at hD1
      refine ⟨D, _, rfl, SqL.of hD1, ?_⟩
      have e : (ts.map fun t => mfit t.1 t.2).all id = ts.all fun t => mfit t.1 t.2 := by rw [List.all_map]; rfl
      rw [e]
      exact k H' sm
    · rintro x σ H1 Q1 Q2 hq1 ⟨a, xs, e1, e2, e3, v, r, e4, v', r', e5, e6, q1⟩
      exact ⟨a, xs, e1, e2, e3, v, r, e4, v', r', e5, e6, hq1 _ _ q1⟩
def newModels (T : Txt K mg) (ms : Models) (H : Hp) (Q : VK) : Prop := ∀ (H' : Hp) (l : Addr) (as bs : List Addr), Same H H' → H l = none → ModelsAt T H' l ms as bs → (∀ a ∈ as, H a = none) → (∀ b ∈ bs, H b = none) → Q (.ref l) H'
def sp_new_models (T : Txt K mg) : Sp := fun vs H Q _ => ∃ (q : Addr) (ns : List Nat) (ms : Models), vs = [.ref q] ∧ SqL K H q (nV ns) ∧ ns.length ≤ 32 ∧ Coder.modelsIn ns = some ms ∧ newModels T ms H Q
theorem ok_new_models (T : Txt K mg) : FnOk P w K mg base CX0 3 T.f_new_models T.d_new_models ["numbers"] (sp_new_models T) := by
  refine T.F_new_models.ok sc_new_models (fun vs H Q E h => ?_) (fun cdv A outer s H vs Q E hr h => ?_)
  · obtain ⟨q, ns, ms, rfl, _⟩ := h; rfl
  · obtain ⟨q, ns, ms, rfl, hq, h32, hms, k⟩ := h
    refine ⟨_, (pss_one (ps_ret (pe_lc (own := [("symbols", 1), ("slowness", 2)]) rfl sc_new_models.nd (pi_zip rfl T.bl_zip (pa_cons (pe_sliceK (pv 0) (po_some pe_int) (po_some pe_int)) (pa_cons (pe_sliceK (pv 0) (po_some pe_int) (po_some pe_int)) pa_nil))) (blkOk_by (show blkC ["numbers", "symbols", "slowness"] (defScope s_new_models) _ _ = true by decide +kernel)) (fun _ _ _ _ _ => by exact pg_tupK (K := K) (n := 2) rfl rfl (pgs_cons (pg_name (i := 1) sc_new_models.nd rfl (Or.inl rfl)) (pgs_cons (pg_name (i := 2) sc_new_models.nd rfl (Or.inl rfl)) pgs_nil))) (fun _ _ _ _ _ => by exact pts_nil) (fun _ _ _ _ _ => by exact (pe_make T.mk_Model (ok_Model___init__ T) (hr.mono (by decide)) rfl T.mc_Model T.b_Model___init__ .nil pass0 (pa_cons (pv 1) (pa_cons (pv 2) pa_nil))))))), ?_⟩
    have h2 : ns.length % 2 = 0 := by
      by_cases h : ns.length % 2 = 1
      · rw [modelsIn_odd ns.length ns rfl h] at hms; cases hms
      · omega
    obtain ⟨ts, ets, hts⟩ := flat2_of (ns.length / 2) ns (by omega)
    subst ets
    have hl := flat2_len ts
    rw [modelsIn_flat2] at hms
    have hall : (ts.all fun t => mfit t.1 t.2) = true := by
      by_cases h : (ts.all fun t => mfit t.1 t.2) = true
      · exact h
      · rw [if_neg h] at hms; cases hms
    rw [if_pos hall] at hms
    have hms := (Option.some.inj hms).symm
    subst hms
    rw [List.all_eq_true] at hall
    refine ⟨_, rfl, _, rfl, _, rfl, q, _, 0, 2, rfl, rfl, rfl, by decide, hq, fun p1 hp1 => ?_⟩
    rw [sl3]
    have s1 := Same.new (o := .lst (nV (stepV (flat2 ts) 0 2))) hp1
    refine ⟨_, rfl, _, rfl, _, rfl, q, _, 1, 2, rfl, rfl, rfl, by decide, s1.seq hq, fun p2 hp2 => ?_⟩
    rw [sl3]
    have a2 := Same.new (o := .lst (nV (stepV (flat2 ts) 1 2))) hp2
    have s2 := s1.trans a2
    have k1 := a2 p1 _ upd_same
    refine ⟨p1, p2, _, _, rfl, SqL.of k1, SqL.of upd_same, fun D hD => ?_⟩
    have a3 := Same.new (o := .lst []) hD
    refine lc_it0 (n := ts.length) (fun i H' => Same H H' ∧ H D = none ∧ H' p1 = some (.lst (nV (stepV (flat2 ts) 0 2))) ∧ H' p2 = some (.lst (nV (stepV (flat2 ts) 1 2))) ∧ p1 ≠ D ∧ p2 ≠ D ∧
        ∃ as bs, ModelsAt T H' D ((ts.take i).map fun t => LwBits.even t.1 t.2) as bs ∧ (∀ a ∈ as, H a = none) ∧ (∀ b ∈ bs, H b = none) ∧ D ∉ as ∧ D ∉ bs ∧ p1 ∉ as ∧ p1 ∉ bs ∧ p2 ∉ as ∧ p2 ∉ bs)
      ⟨s2.trans a3, s2.free hD, a3 _ _ k1, a3 _ _ upd_same, ne_of_none k1 hD, ne_of_none upd_same hD, [], [], ⟨upd_same, List.nodup_nil, List.nodup_nil, rfl, rfl, fun j m h => by simp at h⟩, by simp, by simp, by simp, by simp, by simp, by simp, by simp, by simp⟩ ?_ ?_ ?_ ?_ ?_
    · rintro i H' hi ⟨_, _, g1, g2, _⟩
      exact (zip2_go hi (SqL.of g1) (SqL.of g2)).1
    · rintro H' ⟨_, _, g1, g2, _⟩
      exact zip2_stop (SqL.of g1) (SqL.of g2)
    · rintro i x H1 H2 hi ⟨sm, hDn, g1, g2, n1, n2, as, bs, hM, fa, fb, nDa, nDb, n1a, n1b, n2a, n2b⟩ hy
      obtain ⟨r, t, et, rfl, hr1, rfl⟩ := (zip2_go hi (SqL.of g1) (SqL.of g2)).2 _ _ hy
      have s5 : Same H1 (upd H1 r (.tup [iV t.1, iV t.2])) := Same.new hr1
      refine ⟨r, _, rfl, SqT.of upd_same, rfl, _, _, rfl, _, _, rfl, rfl, rfl, ?_⟩
      have hf := of_decide_eq_true (hall t (List.mem_of_getElem? et))
      unfold Coder.SYMBOLS at hf
      refine ⟨_, rfl, _, rfl, fun x dx hx hdx hne => ⟨x, dx, t.1, t.2, rfl, upd_same, by omega, by omega, fun H3 lb hlb hMo kp => ⟨rfl, ?_⟩⟩⟩
      have s6 : Same (upd H1 r (.tup [iV t.1, iV t.2])) H3 := Same.made hx hdx fun b o e n => kp b o e (by simpa using n)
      have s7 := s5.trans s6
      have x1 : H1 x = none := s5.free hx
      have lb1 : H1 lb = none := by
        have z : lb ≠ x := fun z => by rw [z, upd_same] at hlb; cases hlb
        rw [upd_ne z] at hlb
        have z2 : lb ≠ dx := fun z => by rw [z, upd_same] at hlb; cases hlb
        rw [upd_ne z2] at hlb
        exact s5.free hlb
      have xlb : lb ≠ x := fun z => by rw [z, upd_same] at hlb; cases hlb
      have xD : x ≠ D := fun z => by rw [z, hM.lst] at x1; cases x1
      have lD : lb ≠ D := fun z => by rw [z, hM.lst] at lb1; cases lb1
      refine ⟨_, s7 _ _ hM.lst, ?_, ?_⟩
      · rw [List.length_map, hM.la, List.length_map, List.length_take]
        exact Nat.lt_of_le_of_lt (show _ ≤ 16 by omega) (by decide)
      · have na : x ∉ as := fun z => by
          obtain ⟨j, hj⟩ := List.getElem?_of_mem z
          have hjl := (List.getElem?_eq_some_iff.mp hj).1
          rw [hM.la] at hjl
          obtain ⟨a, b, h1, h2, ⟨d3, h3⟩, h4⟩ := hM.at_ j _ (List.getElem?_eq_getElem hjl)
          rw [hj] at h1; cases h1
          rw [x1] at h3; cases h3
        have nb : lb ∉ bs := fun z => by
          obtain ⟨j, hj⟩ := List.getElem?_of_mem z
          have hjl := (List.getElem?_eq_some_iff.mp hj).1
          rw [hM.lb] at hjl
          obtain ⟨a, b, h1, h2, ⟨d3, h3⟩, h4⟩ := hM.at_ j _ (List.getElem?_eq_getElem hjl)
          rw [hj] at h2; cases h2
          rw [lb1] at h4; cases h4
        have keep : ∀ (b : Addr) (o : HO), H1 b = some o → b ≠ D → (upd H3 D (.lst (as.map V.ref ++ [V.ref x]))) b = some o := fun b o e n => by
          rw [upd_ne n]; exact s7 _ _ e
        refine ⟨fun b o e => keep b o (sm _ _ e) (ne_of_none e hDn), hDn, keep _ _ g1 n1, keep _ _ g2 n2, n1, n2, as ++ [x], bs ++ [lb], ⟨?_, nd_snoc hM.na na, nd_snoc hM.nb nb, ?_, ?_, fun j m h => ?_⟩, ?_, ?_, ?_, ?_, ?_, ?_, ?_, ?_⟩
        · rw [upd_same, List.map_append]; rfl
        · rw [take_snoc et, List.map_append, List.length_append, List.length_append, hM.la]; rfl
        · rw [take_snoc et, List.map_append, List.length_append, List.length_append, hM.lb]; rfl
        · rw [take_snoc et, List.map_append] at h
          by_cases hj : j < ((ts.take i).map fun t => LwBits.even t.1 t.2).length
          · rw [List.getElem?_append_left hj] at h
            obtain ⟨a, b, h1, h2, ⟨d3, h3⟩, h4⟩ := hM.at_ j m h
            have ma : a ∈ as := List.mem_of_getElem? h1
            have mb : b ∈ bs := List.mem_of_getElem? h2
            refine ⟨a, b, by rw [List.getElem?_append_left (by rw [hM.la]; exact hj)]; exact h1, by rw [List.getElem?_append_left (by rw [hM.lb]; exact hj)]; exact h2, ⟨d3, keep _ _ h3 fun z => nDa (z ▸ ma)⟩, keep _ _ h4 fun z => nDb (z ▸ mb)⟩
          · have hle : ((ts.take i).map fun t => LwBits.even t.1 t.2).length ≤ j := by omega
            rw [List.getElem?_append_right hle] at h
            have hj0 : j - ((ts.take i).map fun t => LwBits.even t.1 t.2).length = 0 := by
              have := (List.getElem?_eq_some_iff.mp h).1
              simp only [List.map_cons, List.map_nil, List.length_cons, List.length_nil] at this
              omega
            rw [hj0] at h
            have h : some (LwBits.even t.1 t.2) = some m := h
            cases h
            have ej : j = as.length := by rw [hM.la]; omega
            have ej2 : j = bs.length := by rw [hM.lb]; omega
            obtain ⟨⟨d3, h3⟩, h4⟩ := hMo
            refine ⟨x, lb, by rw [ej]; simp, by rw [ej2]; simp, ⟨d3, by rw [upd_ne xD]; exact h3⟩, by rw [upd_ne lD]; exact h4⟩
        · intro a ha
          rcases List.mem_append.mp ha with z | z
          · exact fa a z
          · have z : a = x := by simpa using z
            rw [z]; exact sm.free x1
        · intro a ha
          rcases List.mem_append.mp ha with z | z
          · exact fb a z
          · have z : a = lb := by simpa using z
            rw [z]; exact sm.free lb1
        · simp only [List.mem_append, List.mem_singleton, not_or]; exact ⟨nDa, fun z => xD z.symm⟩
        · simp only [List.mem_append, List.mem_singleton, not_or]; exact ⟨nDb, fun z => lD z.symm⟩
        · simp only [List.mem_append, List.mem_singleton, not_or]; exact ⟨n1a, fun z => by rw [z, x1] at g1; cases g1⟩
        · simp only [List.mem_append, List.mem_singleton, not_or]; exact ⟨n1b, fun z => by rw [z, lb1] at g1; cases g1⟩
        · simp only [List.mem_append, List.mem_singleton, not_or]; exact ⟨n2a, fun z => by rw [z, x1] at g2; cases g2⟩
        · simp only [List.mem_append, List.mem_singleton, not_or]; exact ⟨n2b, fun z => by rw [z, lb1] at g2; cases g2⟩
    · rintro H' ⟨sm, hDn, g1, g2, n1, n2, as, bs, hM, fa, fb, _⟩
      rw [List.take_length] at hM
      exact k H' D as bs sm hDn hM fa fb
    · rintro x σ H1 Q1 Q2 hq1 ⟨a, xs, e1, e2, e3, v, r, e4, v', r', e5, e6, q1⟩
      exact ⟨a, xs, e1, e2, e3, v, r, e4, v', r', e5, e6, hq1 _ _ q1⟩
end FB
end
section
namespace FB
open PySem PySem.Spec PyProof.Rows L2 FM
open LwBits (Item Models)
variable {P : Program} {w : World} {K : PySem.W.Frag} {mg : Str → Option Value} {base : Heap}
def newInts (l : List Nat) (H : Hp) (Q : VK) : Prop := ∀ (H' : Hp) (p : Addr), Same H H' → H p = none → H' p = some (.lst (nV l)) → Q (.ref p) H'
def sp_taken_out : Sp := fun vs H Q _ => ∃ (x b s : Nat), vs = [iV x, iV b, iV s] ∧ b ≤ x % LwBits.ALL ∧ s ≤ 32768 ∧ Q (iV (LwBits.pop x b s)) H
theorem ok_taken_out (T : Txt K mg) : FnOk P w K mg base CX0 1 T.f_taken_out T.d_taken_out ["state", "begin", "places"] sp_taken_out := by
  refine T.F_taken_out.ok sc_taken_out (fun vs H Q E h => ?_) (fun cdv A outer s H vs Q E hr h => ?_)
  · obtain ⟨x, b, s, rfl, _⟩ := h; rfl
  · obtain ⟨x, b, s, rfl, hb, hs, k⟩ := h
    refine ⟨_, (pss_one (ps_ret (pe_op op_sub (pe_op op_add (pe_op op_mul (pv 2) (pe_op op_fdiv (pv 0) (pe_gi rfl T.g_PLACES))) (pe_op op_mod (pv 0) (pe_gi rfl T.g_PLACES))) (pv 1)))), ?_⟩
    refine ⟨_, rfl, _, rfl, _, _, rfl, rfl, ⟨by decide, by decide⟩, _, _, rfl, rfl, .inl ⟨by omega, by omega⟩, _, rfl, _, _, rfl, rfl, (by show (0 : Int) < 32768; decide), _, _, rfl, rfl, _, rfl, _, _, rfl, rfl, ?_⟩
    have e : (s : Int) * ((x : Int) / 32768) + (x : Int) % 32768 - (b : Int) = ((LwBits.pop x b s : Nat) : Int) := by
      unfold LwBits.pop
      have hA : LwBits.ALL = 32768 := rfl
      rw [hA] at hb ⊢
      have e0 : ((x / 32768 : Nat) : Int) = (x : Int) / 32768 := by omega
      rw [Int.natCast_add, Int.natCast_mul, e0]
      omega
    show Q (V.int ((s : Int) * ((x : Int) / 32768) + (x : Int) % 32768 - (b : Int))) H
    rw [e]
    exact k
def sp_is_full : Sp := fun vs H Q _ => ∃ (x s : Nat), vs = [iV x, iV s] ∧ Q (.bl (decide (s * 131072 ≤ x))) H
theorem ok_is_full (T : Txt K mg) : FnOk P w K mg base CX0 1 T.f_is_full T.d_is_full ["state", "places"] sp_is_full := by
  refine T.F_is_full.ok sc_is_full (fun vs H Q E h => ?_) (fun cdv A outer s H vs Q E hr h => ?_)
  · obtain ⟨x, s, rfl, _⟩ := h; rfl
  · obtain ⟨x, s, rfl, k⟩ := h
    refine ⟨_, (pss_one (ps_ret (pe_cmpR op_ge (pv 0) (pe_op op_mul (pv 1) (pe_gi rfl T.g_FULL)) (nomark _)))), ?_⟩
    refine ⟨_, rfl, _, rfl, _, _, rfl, rfl, .inr ⟨by decide, by decide⟩, _, _, rfl, rfl, ?_⟩
    have e : decide ((s : Int) * 131072 ≤ (x : Int)) = decide (s * 131072 ≤ x) := decide_eq_decide.mpr (by omega)
    show Q (V.bl (decide ((s : Int) * 131072 ≤ (x : Int)))) H
    rw [e]
    exact k
def leN (z n : Nat) : List Nat := (List.range z).map fun k => n / 2 ^ (8 * k) % 256
theorem leN_len (z n : Nat) : (leN z n).length = z := by simp [leN]
def sp_low_first : Sp := fun vs H Q _ => ∃ (n z : Nat), vs = [iV n, iV z] ∧ z ≤ 8 ∧ newInts (leN z n) H Q
theorem and255 (v : Nat) : Builtin.bitAnd (v : Int) 255 = ((v % 256 : Nat) : Int) := by
  have h := mask_nat v 8
  have e : (1 * 2 ^ ((8 : Nat) : Int).toNat - 1 : Int) = 255 := by decide
  rw [e] at h
  exact h
theorem ok_low_first (T : Txt K mg) : FnOk P w K mg base CX0 1 T.f_low_first T.d_low_first ["number", "size"] sp_low_first := by
  refine T.F_low_first.ok sc_low_first (fun vs H Q E h => ?_) (fun cdv A outer s H vs Q E hr h => ?_)
  · obtain ⟨n, z, rfl, _⟩ := h; rfl
  · obtain ⟨n, z, rfl, hz, k⟩ := h
    refine ⟨_, (pss_one (ps_ret (pe_lc (own := [("k", 2)]) rfl sc_low_first.nd (pi_range1 rfl T.bl_range (pa_cons (pv 1) pa_nil)) (blkOk_by (show blkC ["number", "size", "k"] (defScope s_low_first) _ _ = true by decide +kernel)) (fun _ _ _ _ _ => by exact (pg_name (i := 2) sc_low_first.nd rfl (Or.inl rfl))) (fun _ _ _ _ _ => by exact pts_nil) (fun _ _ _ _ _ => by exact (pe_op op_and (pe_op op_shr (pv 0) (pe_op op_mul pe_int (pv 2))) pe_int))))), ?_⟩
    refine ⟨_, rfl, (z : Int), rfl, by omega, by omega, fun D hD => ?_⟩
    rw [Int.toNat_natCast]
    refine lc_range0 (n := z) (fun i H' => H' = upd H D (.lst (nV (leN i n)))) rfl ?_ ?_
    · rintro i H' hi rfl
      refine ⟨rfl, ?_⟩
      refine ⟨_, rfl, _, rfl, _, _, rfl, rfl, .inl ⟨by decide, by decide⟩, _, _, rfl, rfl, (by show (0 : Int) ≤ _; omega), _, _, rfl, rfl, _, upd_same, ?_, ?_⟩
      · rw [List.length_map, leN_len]
        exact Nat.lt_of_lt_of_le hi (Nat.le_trans hz (by decide))
      · rw [upd_upd]
        congr 2
        unfold leN
        rw [List.range_succ, List.map_append, nV_app]
        congr 1
        show [V.int (Builtin.bitAnd ((n : Int) / 2 ^ (8 * (0 + (i : Int))).toNat) 255)] = [V.int (((n / 2 ^ (8 * i) % 256 : Nat)) : Int)]
        have e : (8 * (0 + (i : Int))) = ((8 * i : Nat) : Int) := by omega
        rw [e, shr_nat, and255]
    · rintro H' rfl
      exact k _ D (Same.new hD) hD upd_same
def sp_from_low_first : Sp := fun vs H Q _ => ∃ (q : Addr) (ns : List Nat), vs = [.ref q] ∧ SqL K H q (nV ns) ∧ Q (iV (fromN ns)) H
theorem fromN_drop {ns : List Nat} {i x : Nat} (hi : i < ns.length) (hx : ns[ns.length - 1 - i]? = some x) : fromN (ns.drop (ns.length - (i + 1))) = x + 256 * fromN (ns.drop (ns.length - i)) := by
  have e : ns.drop (ns.length - (i + 1)) = x :: ns.drop (ns.length - i) := by
    have e1 : ns.length - (i + 1) = ns.length - 1 - i := by omega
    have hlt : ns.length - 1 - i < ns.length := by omega
    rw [e1, List.drop_eq_getElem_cons hlt]
    rw [List.getElem?_eq_getElem hlt] at hx
    have e2 : ns.length - 1 - i + 1 = ns.length - i := by omega
    rw [e2, Option.some.inj hx]
  rw [e]
  rfl
theorem ok_from_low_first (T : Txt K mg) : FnOk P w K mg base CX0 1 T.f_from_low_first T.d_from_low_first ["octets"] (sp_from_low_first (K := K)) := by
  refine T.F_from_low_first.ok sc_from_low_first (fun vs H Q E h => ?_) (fun cdv A outer s H vs Q E hr h => ?_)
  · obtain ⟨q, ns, rfl, _⟩ := h; rfl
  · obtain ⟨q, ns, rfl, hq, k⟩ := h
    refine ⟨_, (pss_cons (ps_set (i := 1) sc_from_low_first.nd rfl (Or.inl rfl) pe_int) (pss_cons (ps_for PassesOwn.never rfl (pi_reversed rfl T.bl_reversed (pa_cons (pv 0) pa_nil)) (pg_name (i := 2) sc_from_low_first.nd rfl (Or.inl rfl)) (pss_one (ps_set (i := 1) sc_from_low_first.nd rfl (Or.inl rfl) (pe_op op_add (pe_op op_mul (pv 1) pe_int) (pv 2))))) (pss_one (ps_ret (pv 1))))), ?_⟩
    have hl : (nV ns).length = ns.length := List.length_map _
    have hget : ∀ i, i < ns.length → ∃ x, ns[ns.length - 1 - i]? = some x ∧ (nV ns)[(nV ns).length - 1 - i]? = some (iV x) := fun i hi => by
      have hlt : ns.length - 1 - i < ns.length := by omega
      refine ⟨_, List.getElem?_eq_getElem hlt, ?_⟩
      rw [hl, nV, List.getElem?_map, List.getElem?_eq_getElem hlt]
      rfl
    refine ⟨_, rfl, q, _, rfl, hq, for_it (n := (nV ns).length) (fun i σ H' => ∃ v2, σ = [some (.ref q), some (iV (fromN (ns.drop (ns.length - i)))), v2] ∧ H' = H) ⟨none, ?_, rfl⟩ ?_ ?_ ?_ ?_⟩
    · rw [Nat.sub_zero, List.drop_length]; rfl
    · rintro i σ H1 hi ⟨_, _, rfl⟩
      obtain ⟨x, _, e⟩ := hget i (by omega)
      exact ⟨hi, _, _, hq, e⟩
    · rintro σ H1 _
      exact Nat.le_refl _
    · rintro i x σ H1 H2 hi ⟨v2, rfl, rfl⟩ ⟨rfl, hy⟩
      obtain ⟨y, e1, e2⟩ := hget i (by omega)
      have e3 := hy _ hq
      rw [e2] at e3; cases e3
      refine ⟨_, rfl, _, _, rfl, rfl, .inr ⟨by decide, by decide⟩, _, rfl, _, _, rfl, rfl, ?_⟩
      refine ⟨some (iV y), ?_, rfl⟩
      have e4 := fromN_drop (by omega) e1
      have e5 : ((fromN (ns.drop (ns.length - i)) : Nat) : Int) * 256 + (y : Int) = ((fromN (ns.drop (ns.length - (i + 1))) : Nat) : Int) := by rw [e4]; omega
      show [_, some (V.int _), _] = _
      rw [e5]
    · rintro σ H1 ⟨v2, rfl, rfl⟩
      refine ⟨_, rfl, ?_⟩
      have e : fromN (ns.drop (ns.length - (nV ns).length)) = fromN ns := by rw [hl, Nat.sub_self]; rfl
      rw [e]
      exact k
def bytesOf (xs ws : List Nat) : List Nat := xs.flatMap (leN 4) ++ ws.flatMap (leN 2)
def sp_row_bytes : Sp := fun vs H Q _ => ∃ (p q : Addr) (xs ws : List Nat), vs = [.ref p, .ref q] ∧ SqL K H p (nV xs) ∧ SqL K H q (nV ws.reverse) ∧ xs.length ≤ 16 ∧ ws.length ≤ 1000 ∧ newInts (bytesOf xs ws) H Q
theorem flat_leN (z : Nat) : ∀ l : List Nat, (l.flatMap (leN z)).length = z * l.length
  | [] => rfl
  | x :: l => by rw [List.flatMap_cons, List.length_append, leN_len, flat_leN z l, List.length_cons, Nat.mul_add]; omega
theorem small20 {n : Nat} (h : n ≤ 100000) : n ≤ sizeLine := Nat.le_trans h (by decide)
theorem ok_row_bytes (T : Txt K mg) : FnOk P w K mg base CX0 2 T.f_row_bytes T.d_row_bytes ["states", "words"] (sp_row_bytes (K := K)) := by
  refine T.F_row_bytes.ok sc_row_bytes (fun vs H Q E h => ?_) (fun cdv A outer s H vs Q E hr h => ?_)
  · obtain ⟨p, q, xs, ws, rfl, _⟩ := h; rfl
  · obtain ⟨p, q, xs, ws, rfl, hp, hq, hx, hw, k⟩ := h
    refine ⟨_, (pss_cons (ps_set (i := 2) sc_row_bytes.nd rfl (Or.inl rfl) (pe_lst pa_nil)) (pss_cons (ps_for PassesOwn.never rfl (pi_list (pv 0)) (pg_name (i := 3) sc_row_bytes.nd rfl (Or.inl rfl)) (pss_one (ps_expr (pe_bm PySem.F.plainAttrs_list PySem.F.slot_list_extend PySem.F.type_list_extend mt_extend (pv 2) (pa_cons (pe_call (ok_low_first T) (hr.mono (by decide)) rfl T.m_low_first T.F_low_first.kp T.b_low_first .nil pass0 (pa_cons (pv 3) (pa_cons (pe_gi rfl T.g_STATE_BYTES) pa_nil))) pa_nil))))) (pss_cons (ps_for PassesOwn.never rfl (pi_reversed rfl T.bl_reversed (pa_cons (pv 1) pa_nil)) (pg_name (i := 4) sc_row_bytes.nd rfl (Or.inl rfl)) (pss_one (ps_expr (pe_bm PySem.F.plainAttrs_list PySem.F.slot_list_extend PySem.F.type_list_extend mt_extend (pv 2) (pa_cons (pe_call (ok_low_first T) (hr.mono (by decide)) rfl T.m_low_first T.F_low_first.kp T.b_low_first .nil pass0 (pa_cons (pv 4) (pa_cons (pe_gi rfl T.g_WORD_BYTES) pa_nil))) pa_nil))))) (pss_one (ps_ret (pv 2)))))), ?_⟩
    refine ⟨Nat.zero_le _, fun D hD => ?_⟩
    have s0 := Same.new (o := .lst []) hD
    refine ⟨_, rfl, p, rfl, ⟨_, s0.seq hp⟩, for_list (K := K) (a := p) (xs := nV xs) (fun i σ H' => ∃ v3, σ = [some (.ref p), some (.ref q), some (.ref D), v3, none] ∧ Same H H' ∧ H' D = some (.lst (nV ((xs.take i).flatMap (leN 4)))))
      ⟨_, rfl, s0, upd_same⟩ (fun i σ H' _ ⟨_, _, s5, _⟩ => s5.seq hp) ?_ ?_⟩
    · rintro i y σ H1 hi ⟨v3, rfl, sm, hD1⟩
      obtain ⟨x, hx', rfl⟩ : ∃ x, xs[i]? = some x ∧ y = iV x := by
        rw [nV, List.getElem?_map] at hi
        cases e : xs[i]? with
        | none => rw [e] at hi; cases hi
        | some x => rw [e] at hi; exact ⟨x, rfl, (Option.some.inj hi).symm⟩
      refine ⟨_, rfl, .inl ⟨rfl, _, SqL.of hD1⟩, _, rfl, x, 4, rfl, by decide, fun H3 z s6 hz hl => ?_⟩
      have hD3 := s6 _ _ hD1
      have hzD : z ≠ D := fun e => by rw [e, hD1] at hz; cases hz
      refine ⟨D, z, _, _, rfl, rfl, hD3, hl, ?_, ?_⟩
      · rw [nV_len, nV_len, flat_leN, leN_len, List.length_take]
        exact small20 (by omega)
      · refine ⟨_, rfl, fun b o e => ?_, ?_⟩
        · rw [upd_ne (ne_of_none e hD)]; exact s6 _ _ (sm _ _ e)
        · rw [upd_same, take_snoc hx', List.flatMap_append, nV_app]
          simp
    · rintro σ H1 ⟨v3, rfl, sm, hD1⟩
      rw [nV_len, List.take_length] at hD1
      have hl : (nV ws.reverse).length = ws.length := by rw [nV_len, List.length_reverse]
      have hget : ∀ i, i < ws.length → ∃ x, ws[i]? = some x ∧ (nV ws.reverse)[(nV ws.reverse).length - 1 - i]? = some (iV x) := fun i hi => by
        refine ⟨_, List.getElem?_eq_getElem hi, ?_⟩
        rw [hl, nV, List.getElem?_map, List.getElem?_reverse (by omega)]
        have e : ws.length - 1 - (ws.length - 1 - i) = i := by omega
        rw [e, List.getElem?_eq_getElem hi]
        rfl
      refine ⟨_, rfl, q, _, rfl, sm.seq hq, for_it (n := (nV ws.reverse).length) (fun i σ H' => ∃ v4, σ = [some (.ref p), some (.ref q), some (.ref D), v3, v4] ∧ Same H H' ∧ H' D = some (.lst (nV (xs.flatMap (leN 4) ++ (ws.take i).flatMap (leN 2)))))
        ⟨_, rfl, sm, by simpa using hD1⟩ ?_ ?_ ?_ ?_⟩
      · rintro i σ H2 hi ⟨_, _, s2, _⟩
        obtain ⟨x, _, e⟩ := hget i (by omega)
        exact ⟨hi, _, _, s2.seq hq, e⟩
      · rintro σ H2 _
        exact Nat.le_refl _
      · rintro i x σ H2 H3 hi ⟨v4, rfl, s2, hD2⟩ ⟨rfl, hy⟩
        obtain ⟨y, e1, e2⟩ := hget i (by omega)
        have e3 := hy _ (s2.seq hq)
        rw [e2] at e3; cases e3
        refine ⟨_, rfl, .inl ⟨rfl, _, SqL.of hD2⟩, _, rfl, y, 2, rfl, by decide, fun H4 z s6 hz hl' => ?_⟩
        have hD4 := s6 _ _ hD2
        refine ⟨D, z, _, _, rfl, rfl, hD4, hl', ?_, ?_⟩
        · rw [nV_len, nV_len, List.length_append, flat_leN, flat_leN, leN_len, List.length_take]
          exact small20 (by omega)
        · refine ⟨_, rfl, fun b o e => ?_, ?_⟩
          · rw [upd_ne (ne_of_none e hD)]; exact s6 _ _ (s2 _ _ e)
          · rw [upd_same, take_snoc e1, List.flatMap_append, ← nV_app, List.append_assoc]
            simp
      · rintro σ H2 ⟨v4, rfl, s2, hD2⟩
        rw [hl, List.take_length] at hD2
        exact ⟨_, rfl, k H2 D s2 hD hD2⟩
end FB
end
section
namespace FB
open PySem PySem.Spec PyProof.Rows L2 FM
open LwBits (Item Models)
variable {P : Program} {w : World} {K : PySem.W.Frag} {mg : Str → Option Value} {base : Heap}
theorem rg2 {z k : Nat} (hz : z = 2 ∨ z = 4) (hk : k ≤ 5000) : RgC 0 ((z * k : Nat) : Int) (z : Int) k := by
  have e : Builtin.Range.rangeSize 0 ((z * k : Nat) : Int) (z : Int) = (k : Int) := by
    unfold Builtin.Range.rangeSize
    rcases hz with rfl | rfl
    · rw [if_pos (by decide)]
      by_cases h0 : k = 0
      · subst h0; rfl
      · rw [if_pos (by omega)]; omega
    · rw [if_pos (by decide)]
      by_cases h0 : k = 0
      · subst h0; rfl
      · rw [if_pos (by omega)]; omega
  refine ⟨by omega, by omega, ?_, e⟩
  unfold Builtin.Range.small
  rw [e]
  rcases hz with rfl | rfl
  · rw [if_pos (by decide)]
    simp only [Builtin.Range.rangeFitsLong, Bool.and_eq_true, Bool.or_eq_true, decide_eq_true_eq, beq_iff_eq]
    refine ⟨⟨⟨⟨by omega, by omega⟩, by omega, by omega⟩, by omega, by omega⟩, .inr ⟨by omega, by omega⟩⟩
  · rw [if_pos (by decide)]
    simp only [Builtin.Range.rangeFitsLong, Bool.and_eq_true, Bool.or_eq_true, decide_eq_true_eq, beq_iff_eq]
    refine ⟨⟨⟨⟨by omega, by omega⟩, by omega, by omega⟩, by omega, by omega⟩, .inr ⟨by omega, by omega⟩⟩
theorem cut_nat (l : List Nat) (a b : Nat) (ha : a ≤ l.length) (hb : a + b ≤ l.length) {x y : Int} (hx : x = (a : Int)) (hy : y = ((a + b : Nat) : Int)) : cutV (nV l) (some x) (some y) = nV ((l.drop a).take b) := by
  subst hx hy
  unfold cutV
  rw [HT.sIx_nat, HT.sIx_nat, nV_len, Nat.min_eq_left ha, Nat.min_eq_left hb, nV, ← List.map_drop, ← List.map_take]
  congr 2
  omega
def sp_numbers_of_size : Sp := fun vs H Q _ => ∃ (q : Addr) (ns : List Nat) (z k : Nat), vs = [.ref q, iV z] ∧ SqL K H q (nV ns) ∧ (z = 2 ∨ z = 4) ∧ k ≤ 5000 ∧ ns.length = z * k ∧ newInts (numsN ns z k) H Q
theorem numsN_len (l : List Nat) (z k : Nat) : (numsN l z k).length = k := by simp [numsN]
theorem numsN_succ (l : List Nat) (z k : Nat) : numsN l z (k + 1) = numsN l z k ++ [fromN ((l.drop (z * k)).take z)] := by
  unfold numsN
  rw [List.range_succ, List.map_append]; rfl
theorem ok_numbers_of_size (T : Txt K mg) : FnOk P w K mg base CX0 2 T.f_numbers_of_size T.d_numbers_of_size ["octets", "size"] (sp_numbers_of_size (K := K)) := by
  refine T.F_numbers_of_size.ok sc_numbers_of_size (fun vs H Q E h => ?_) (fun cdv A outer s H vs Q E hr h => ?_)
  · obtain ⟨q, ns, z, k, rfl, _⟩ := h; rfl
  · obtain ⟨q, ns, z, c, rfl, hq, hz, hc, hl, k⟩ := h
    refine ⟨_, (pss_one (ps_ret (pe_lc (own := [("at", 2)]) rfl sc_numbers_of_size.nd (pi_range3 rfl T.bl_range (pa_cons pe_int (pa_cons (pe_callB call_len_seq (by rfl) T.bl_len PySem.boot_len (pa_cons (pv 0) pa_nil)) (pa_cons (pv 1) pa_nil)))) (blkOk_by (show blkC ["octets", "size", "at"] (defScope s_numbers_of_size) _ _ = true by decide +kernel)) (fun _ _ _ _ _ => by exact (pg_name (i := 2) sc_numbers_of_size.nd rfl (Or.inl rfl))) (fun _ _ _ _ _ => by exact pts_nil) (fun _ _ _ _ _ => by exact (pe_call (ok_from_low_first T) (hr.mono (by decide)) rfl T.m_from_low_first T.F_from_low_first.kp T.b_from_low_first .nil pass0 (pa_cons (pe_slice (sl_listK (K := K) rfl) (pv 0) (po_some (pv 2)) (po_some (pe_op op_add (pv 2) (pv 1)))) pa_nil)))))), ?_⟩
    have hl' : ((nV ns).length : Int) = ((z * c : Nat) : Int) := by rw [nV_len, hl]
    refine ⟨_, rfl, q, _, rfl, .inl hq, _, rfl, 0, _, _, c, rfl, by rw [hl']; exact rg2 hz hc, fun D hD => ?_⟩
    refine lc_it0 (n := c) (fun i H' => Same H H' ∧ H' D = some (.lst (nV (numsN ns z i)))) ⟨Same.new hD, upd_same⟩ ?_ ?_ ?_ ?_ ?_
    · rintro i H1 hi _
      exact hi
    · rintro H1 _
      exact Nat.le_refl _
    · rintro i x H1 H2 hi ⟨sm, hD1⟩ ⟨rfl, rfl⟩
      have h1 : z * i + z ≤ ns.length := by
        rw [hl]
        have : z * (i + 1) ≤ z * c := Nat.mul_le_mul_left z hi
        rw [Nat.mul_add] at this
        omega
      have e0 : (0 : Int) + ((i : Nat) : Int) * (z : Int) = ((z * i : Nat) : Int) := by rw [Int.natCast_mul, Int.zero_add, Int.mul_comm]
      refine ⟨rfl, _, rfl, _, rfl, _, rfl, _, rfl, _, rfl, _, _, rfl, rfl, _, rfl, q, _, rfl, sm.seq hq, fun p hp => ?_⟩
      rw [cut_nat ns (z * i) z (by omega) h1 e0 (by rw [e0]; omega)]
      have hpD : D ≠ p := ne_of_none hD1 hp
      refine ⟨p, _, rfl, SqL.of upd_same, _, by rw [upd_ne hpD]; exact hD1, ?_, ?_, ?_⟩
      · rw [nV_len, numsN_len]
        exact Nat.lt_of_lt_of_le hi (small20 (by omega))
      · intro b o e
        rw [upd_ne (ne_of_none e hD), upd_ne (ne_of_none (sm _ _ e) hp)]
        exact sm _ _ e
      · rw [upd_same, numsN_succ, nV_app]
        rfl
    · rintro H1 ⟨sm, hD1⟩
      exact k H1 D sm hD hD1
    · rintro x σ H1 Q1 Q2 hq1 h
      exact hq1 _ _ h
def sp_states_in : Sp := fun vs H Q _ => ∃ (q : Addr) (ns : List Nat) (n : Nat), vs = [.ref q, iV n] ∧ SqL K H q (nV ns) ∧ n ≤ 16 ∧ 4 * n ≤ ns.length ∧ newInts (numsN ns 4 n) H Q
theorem numsN_take (l : List Nat) (n : Nat) : numsN (l.take (4 * n)) 4 n = numsN l 4 n := by
  unfold numsN
  refine List.map_congr_left fun i hi => ?_
  have hi := List.mem_range.mp hi
  rw [List.drop_take, List.take_take, Nat.min_eq_left (by omega)]
theorem ok_states_in (T : Txt K mg) : FnOk P w K mg base CX0 3 T.f_states_in T.d_states_in ["octets", "lanes"] (sp_states_in (K := K)) := by
  refine T.F_states_in.ok sc_states_in (fun vs H Q E h => ?_) (fun cdv A outer s H vs Q E hr h => ?_)
  · obtain ⟨q, ns, n, rfl, _⟩ := h; rfl
  · obtain ⟨q, ns, n, rfl, hq, hn, hl, k⟩ := h
    refine ⟨_, (pss_one (ps_ret (pe_call (ok_numbers_of_size T) (hr.mono (by decide)) rfl T.m_numbers_of_size T.F_numbers_of_size.kp T.b_numbers_of_size .nil pass0 (pa_cons (pe_slice sl_list (pv 0) po_none (po_some (pe_op op_mul (pe_gi rfl T.g_STATE_BYTES) (pv 1)))) (pa_cons (pe_gi rfl T.g_STATE_BYTES) pa_nil))))), ?_⟩
    refine ⟨_, rfl, _, rfl, _, _, rfl, rfl, .inl ⟨by decide, by decide⟩, _, rfl, q, _, rfl, hq, fun p hp => ?_⟩
    have e : cutV (nV ns) none (some (4 * (n : Int))) = nV (ns.take (4 * n)) := by
      unfold cutV
      have e4 : (4 * (n : Int)) = ((4 * n : Nat) : Int) := by omega
      rw [e4, HT.sIx_none, HT.sIx_nat, nV_len, Nat.min_eq_left hl, Nat.sub_zero, List.drop_zero, nV, ← List.map_take]
    rw [e]
    have s1 : Same H (upd H p (.lst (nV (ns.take (4 * n))))) := Same.new hp
    refine ⟨p, _, 4, n, rfl, SqL.of upd_same, .inr rfl, by omega, by rw [List.length_take]; omega, fun H' r s2 hr1 hl' => ?_⟩
    rw [numsN_take] at hl'
    exact k H' r (s1.trans s2) (s1.free hr1) hl'
def sp_words_in : Sp := fun vs H Q _ => ∃ (q : Addr) (ns : List Nat) (n k : Nat), vs = [.ref q, iV n] ∧ SqL K H q (nV ns) ∧ n ≤ 16 ∧ k ≤ 5000 ∧ ns.length = 4 * n + 2 * k ∧ newInts (numsN (ns.drop (4 * n)) 2 k) H Q
theorem ok_words_in (T : Txt K mg) : FnOk P w K mg base CX0 3 T.f_words_in T.d_words_in ["octets", "lanes"] (sp_words_in (K := K)) := by
  refine T.F_words_in.ok sc_words_in (fun vs H Q E h => ?_) (fun cdv A outer s H vs Q E hr h => ?_)
  · obtain ⟨q, ns, n, k, rfl, _⟩ := h; rfl
  · obtain ⟨q, ns, n, c, rfl, hq, hn, hc, hl, k⟩ := h
    refine ⟨_, (pss_one (ps_ret (pe_call (ok_numbers_of_size T) (hr.mono (by decide)) rfl T.m_numbers_of_size T.F_numbers_of_size.kp T.b_numbers_of_size .nil pass0 (pa_cons (pe_slice sl_list (pv 0) (po_some (pe_op op_mul (pe_gi rfl T.g_STATE_BYTES) (pv 1))) po_none) (pa_cons (pe_gi rfl T.g_WORD_BYTES) pa_nil))))), ?_⟩
    refine ⟨_, rfl, _, rfl, _, _, rfl, rfl, .inl ⟨by decide, by decide⟩, _, rfl, q, _, rfl, hq, fun p hp => ?_⟩
    have e : cutV (nV ns) (some (4 * (n : Int))) none = nV (ns.drop (4 * n)) := by
      unfold cutV
      have e4 : (4 * (n : Int)) = ((4 * n : Nat) : Int) := by omega
      rw [e4, HT.sIx_none, HT.sIx_nat, nV_len, Nat.min_eq_left (by omega), nV, ← List.map_drop]
      exact List.take_of_length_le (by rw [List.length_map, List.length_drop]; omega)
    rw [e]
    have s1 : Same H (upd H p (.lst (nV (ns.drop (4 * n))))) := Same.new hp
    refine ⟨p, _, 2, c, rfl, SqL.of upd_same, .inl rfl, hc, by rw [List.length_drop]; omega, fun H' r s2 hr1 hl' => ?_⟩
    exact k H' r (s1.trans s2) (s1.free hr1) hl'
def optV : Option Nat → V
  | none => .non
  | some n => iV n
def faultN (n : Nat) (ns : List Nat) : Option Nat :=
  if ns.length < 4 * n then some ns.length else match (List.range n).find? fun i => decide (fromN ((ns.drop (4 * i)).take 4) < LwBits.LOW) with
    | some i => some (4 * i)
    | none => if ns.length % 2 = 1 then some (ns.length - 1) else none
def sp_fault_place : Sp := fun vs H Q _ => ∃ (q : Addr) (ns : List Nat) (n : Nat), vs = [.ref q, iV n] ∧ SqL K H q (nV ns) ∧ n ≤ 16 ∧ ∀ H', Same H H' → Q (optV (faultN n ns)) H'
theorem ok_fault_place (T : Txt K mg) : FnOk P w K mg base CX0 4 T.f_fault_place T.d_fault_place ["octets", "lanes"] (sp_fault_place (K := K)) := by
  refine T.F_fault_place.ok sc_fault_place (fun vs H Q E h => ?_) (fun cdv A outer s H vs Q E hr h => ?_)
  · obtain ⟨q, ns, n, rfl, _⟩ := h; rfl
  · obtain ⟨q, ns, n, rfl, hq, hn, k⟩ := h
    refine ⟨_, (pss_cons (ps_if (pt_cmpR op_lt (pe_callB call_len_seq (by rfl) T.bl_len PySem.boot_len (pa_cons (pv 0) pa_nil)) (pe_op op_mul (pe_gi rfl T.g_STATE_BYTES) (pv 1)) (nomark _)) (pss_one (ps_ret (pe_callB call_len_seq (by rfl) T.bl_len PySem.boot_len (pa_cons (pv 0) pa_nil)))) pss_nil) (pss_cons (ps_for PassesOwn.never rfl (pi_enum rfl T.bl_enumerate (pa_cons (pe_call (ok_states_in T) (hr.mono (by decide)) rfl T.m_states_in T.F_states_in.kp T.b_states_in .nil pass0 (pa_cons (pv 0) (pa_cons (pv 1) pa_nil))) pa_nil)) (pg_tup rfl (pgs_cons (pg_name (i := 2) sc_fault_place.nd rfl (Or.inl rfl)) (pgs_cons (pg_name (i := 3) sc_fault_place.nd rfl (Or.inl rfl)) pgs_nil))) (pss_one (ps_if (pt_cmpR op_lt (pv 3) (pe_gi rfl T.g_LEAST_STATE) (nomark _)) (pss_one (ps_ret (pe_op op_mul (pe_gi rfl T.g_STATE_BYTES) (pv 2)))) pss_nil))) (pss_cons (ps_if (pt_cmpR op_eq (pe_op op_mod (pe_callB call_len_seq (by rfl) T.bl_len PySem.boot_len (pa_cons (pv 0) pa_nil)) pe_int) pe_int (nomark _)) (pss_one (ps_ret (pe_op op_sub (pe_callB call_len_seq (by rfl) T.bl_len PySem.boot_len (pa_cons (pv 0) pa_nil)) pe_int))) pss_nil) (pss_one (ps_ret pe_non))))), ?_⟩
    have hl : (nV ns).length = ns.length := nV_len ns
    unfold faultN at k
    refine ⟨_, rfl, q, _, rfl, .inl hq, _, rfl, _, _, rfl, rfl, .inl ⟨by decide, by decide⟩, _, _, rfl, rfl, _, rfl, iteD (fun h => ?_) (fun h => ?_)⟩
    · rw [hl] at h
      rw [if_pos (by omega)] at k
      refine ⟨_, rfl, q, _, rfl, .inl hq, ?_⟩
      rw [hl]
      exact k H (Same.refl H)
    · rw [hl] at h
      rw [if_neg (by omega)] at k
      refine ⟨_, rfl, _, rfl, q, ns, n, rfl, hq, hn, by omega, fun H1 p s1 hp hp1 => ?_⟩
      refine ⟨p, _, rfl, SqL.of hp1, ?_⟩
      have hget : ∀ i, i < n → (nV (numsN ns 4 n))[i]? = some (iV (fromN ((ns.drop (4 * i)).take 4))) := fun i hi => by
        unfold numsN
        rw [nV, List.map_map, List.getElem?_map, List.getElem?_range hi]
        rfl
      refine for_it (n := n) (fun i σ H' => ∃ v2 v3, σ = [some (.ref q), some (iV n), v2, v3] ∧ Same H H' ∧ H' p = some (.lst (nV (numsN ns 4 n))) ∧ ∀ j, j < i → ¬ fromN ((ns.drop (4 * j)).take 4) < LwBits.LOW)
        ⟨_, _, rfl, s1, hp1, fun j hj => by omega⟩ ?_ ?_ ?_ ?_
      · rintro i σ H2 hi ⟨_, _, _, _, hp2, _⟩
        exact ⟨_, _, SqL.of hp2, hget i hi⟩
      · rintro σ H2 ⟨_, _, _, _, hp2, _⟩
        exact ⟨_, SqL.of hp2, by rw [nV_len, numsN_len]; exact Nat.le_refl _⟩
      · rintro i x σ H2 H3 hi ⟨v2, v3, rfl, s2, hp2, no⟩ ⟨r, x', rfl, hr1, rfl, hy⟩
        have e := hy _ (SqL.of hp2)
        rw [hget i hi] at e; cases e
        have s3 := Same.new (o := .tup [.int ((i : Nat) : Int), iV (fromN ((ns.drop (4 * i)).take 4))]) hr1
        refine ⟨r, _, rfl, SqT.of upd_same, rfl, _, _, rfl, _, _, rfl, rfl, ?_⟩
        refine ⟨_, rfl, _, _, rfl, rfl, _, rfl, ?_⟩
        generalize hc : decide (((fromN ((ns.drop (4 * i)).take 4) : Nat) : Int) < 65536) = c
        refine iteB (fun h => ?_) (fun h => ?_)
        · rw [h] at hc
          have h := hc
          have h : ((fromN ((ns.drop (4 * i)).take 4) : Nat) : Int) < 65536 := of_decide_eq_true h
          have h' : fromN ((ns.drop (4 * i)).take 4) < LwBits.LOW := by unfold LwBits.LOW; omega
          have hf : (List.range n).find? (fun i => decide (fromN ((ns.drop (4 * i)).take 4) < LwBits.LOW)) = some i := by
            rw [List.find?_range_eq_some]
            exact ⟨decide_eq_true h', List.mem_range.mpr hi, fun j hj => by simpa using no j hj⟩
          rw [hf] at k
          refine ⟨_, rfl, _, _, rfl, rfl, .inl ⟨by decide, by decide⟩, ?_⟩
          have e4 : (4 : Int) * ((i : Nat) : Int) = ((4 * i : Nat) : Int) := by omega
          show Q (V.int (4 * ((i : Nat) : Int))) _
          rw [e4]
          exact k _ (s2.trans s3)
        · rw [h] at hc
          have h := hc
          have h : ¬ ((fromN ((ns.drop (4 * i)).take 4) : Nat) : Int) < 65536 := of_decide_eq_false h
          refine ⟨_, _, rfl, s2.trans s3, s3 _ _ hp2, fun j hj => ?_⟩
          by_cases e : j = i
          · subst e; unfold LwBits.LOW; omega
          · exact no j (by omega)
      · rintro σ H2 ⟨v2, v3, rfl, s2, hp2, no⟩
        have hf : (List.range n).find? (fun i => decide (fromN ((ns.drop (4 * i)).take 4) < LwBits.LOW)) = none := by
          rw [List.find?_eq_none]
          intro j hj
          simpa using no j (List.mem_range.mp hj)
        rw [hf] at k
        refine ⟨_, rfl, q, _, rfl, .inl (s2.seq hq), _, _, rfl, rfl, (by show (0 : Int) < 2; decide), rfl, _, rfl, iteI (fun h => ?_) (fun h => ?_)⟩
        · rw [hl] at h
          dsimp only at k
          rw [if_pos (by omega)] at k
          refine ⟨_, rfl, q, _, rfl, .inl (s2.seq hq), _, _, rfl, rfl, ?_⟩
          have e : ((nV ns).length : Int) - 1 = ((ns.length - 1 : Nat) : Int) := by rw [hl]; omega
          show Q (V.int (((nV ns).length : Int) - 1)) H2
          rw [e]
          exact k H2 s2
        · rw [hl] at h
          dsimp only at k
          rw [if_neg (by omega)] at k
          exact k H2 s2
end FB
end
section
namespace FB
open PySem PySem.Spec PyProof.Rows L2 FM
open LwBits (Item Models)
variable {P : Program} {w : World} {K : PySem.W.Frag} {mg : Str → Option Value} {base : Heap}
def shV (p : Nat × Nat) : List V := [iV p.1, iV p.2]
abbrev shsV (l : List (Nat × Nat)) : List (List V) := l.map shV
theorem push_len (n : Nat) : ∀ (l : List (Nat × Nat)) (i : Nat), (LwBits.pushAll n i l).1.length = n ∧ (LwBits.pushAll n i l).2.length ≤ l.length
  | [], i => by simp [LwBits.pushAll]
  | (b, s) :: r, i => by
    obtain ⟨h1, h2⟩ := push_len n r (i + 1)
    unfold LwBits.pushAll
    dsimp only
    refine ⟨by rw [List.length_set]; exact h1, ?_⟩
    rw [List.length_append, List.length_cons]
    have : (LwBits.push ((LwBits.pushAll n (i + 1) r).1.getD (i % n) 0) b s).1.toList.length ≤ 1 := by
      cases (LwBits.push ((LwBits.pushAll n (i + 1) r).1.getD (i % n) 0) b s).1 <;> simp
    omega
def sp_coded : Sp := fun vs H Q _ => ∃ (p : Addr) (n : Nat) (shs : List (Nat × Nat)), vs = [.ref p, iV n] ∧ TupsL H p (shsV shs) ∧ 0 < n ∧ n ≤ 16 ∧ shs.length ≤ 1000 ∧ (∀ x ∈ shs, 0 < x.2 ∧ x.2 ≤ 32768) ∧
  newInts (bytesOf (LwBits.pushAll n 0 shs).1 (LwBits.pushAll n 0 shs).2) H Q
theorem getD_some {l : List Nat} {i : Nat} (h : i < l.length) : l[i]? = some (l.getD i 0) := by simp [List.getD, h]
theorem ixN_nat {n j : Nat} {z : Int} (e : z = (j : Int)) (h : j < n) : ixN n z = some j := by
  subst e
  unfold ixN
  rw [if_pos (by omega), if_pos (by omega), Int.toNat_natCast]
theorem ok_coded (T : Txt K mg) : FnOk P w K mg base CX0 3 T.f_coded T.d_coded ["shares", "lanes"] sp_coded := by
  refine T.F_coded.ok sc_coded (fun vs H Q E h => ?_) (fun cdv A outer s H vs Q E hr h => ?_)
  · obtain ⟨p, n, shs, rfl, _⟩ := h; rfl
  · obtain ⟨p, n, shs, rfl, ⟨rs, hp, ht⟩, h0, hn, hl, hs, k⟩ := h
    refine ⟨_, (pss_cons (ps_set (i := 2) sc_coded.nd rfl (Or.inl rfl) (pe_op op_rep (pe_lst (pa_cons (pe_gi rfl T.g_FIRST_STATE) pa_nil)) (pv 1))) (pss_cons (ps_set (i := 3) sc_coded.nd rfl (Or.inl rfl) (pe_lst pa_nil)) (pss_cons (ps_for PassesOwn.never rfl (pi_range3 rfl T.bl_range (pa_cons (pe_op op_sub (pe_callB call_len_seq (by rfl) T.bl_len PySem.boot_len (pa_cons (pv 0) pa_nil)) pe_int) (pa_cons (pe_un un_neg pe_int) (pa_cons (pe_un un_neg pe_int) pa_nil)))) (pg_name (i := 4) sc_coded.nd rfl (Or.inl rfl)) (pss_cons (ps_set (i := 5) sc_coded.nd rfl (Or.inl rfl) (pe_op op_mod (pv 4) (pv 1))) (pss_cons (ps_set (i := 6) sc_coded.nd rfl (Or.inl rfl) (pe_ix ix_tup (pe_ix ix_list (pv 0) (pv 4) (fun _ _ => rfl)) pe_int (fun _ _ => rfl))) (pss_cons (ps_set (i := 7) sc_coded.nd rfl (Or.inl rfl) (pe_ix ix_tup (pe_ix ix_list (pv 0) (pv 4) (fun _ _ => rfl)) pe_int (fun _ _ => rfl))) (pss_cons (ps_if (pt_val (pe_call (ok_is_full T) (hr.mono (by decide)) rfl T.m_is_full T.F_is_full.kp T.b_is_full .nil pass0 (pa_cons (pe_ix ix_list (pv 2) (pv 5) (fun _ _ => rfl)) (pa_cons (pv 7) pa_nil)))) (pss_cons (ps_expr (pe_bm PySem.F.plainAttrs_list PySem.F.slot_list_append PySem.F.type_list_append mt_append (pv 3) (pa_cons (pe_op op_mod (pe_ix ix_list (pv 2) (pv 5) (fun _ _ => rfl)) (pe_gi rfl T.g_WORD)) pa_nil))) (pss_one (ps_asg (pe_op op_fdiv (pe_ix ix_list (pv 2) (pv 5) (fun _ _ => rfl)) (pe_gi rfl T.g_WORD)) (pg_sub (pv 2) (pv 5) set_list)))) pss_nil) (pss_one (ps_asg (pe_op op_add (pe_op op_add (pe_op op_mul (pe_op op_fdiv (pe_ix ix_list (pv 2) (pv 5) (fun _ _ => rfl)) (pv 7)) (pe_gi rfl T.g_PLACES)) (pe_op op_mod (pe_ix ix_list (pv 2) (pv 5) (fun _ _ => rfl)) (pv 7))) (pv 6)) (pg_sub (pv 2) (pv 5) set_list)))))))) (pss_one (ps_ret (pe_call (ok_row_bytes T) (hr.mono (by decide)) rfl T.m_row_bytes T.F_row_bytes.kp T.b_row_bytes .nil pass0 (pa_cons (pv 2) (pa_cons (pv 3) pa_nil)))))))), ?_⟩
    have hrl : rs.length = shs.length := by rw [ht.len, List.length_map]
    refine ⟨(by show 1 ≤ sizeLine; decide), fun l1 hl1 => ?_⟩
    refine ⟨_, rfl, l1, _, _, rfl, rfl, upd_same, by omega, by omega, ?_, fun S hS => ?_⟩
    · show 1 * _ ≤ _
      exact small20 (by omega)
    have eS : (List.replicate ((n : Int)).toNat [V.int 65536]).flatten = nV (List.replicate n LwBits.LOW) := by
      rw [Int.toNat_natCast]
      unfold LwBits.LOW
      induction n with
      | zero => rfl
      | succ m ih => rw [List.replicate_succ, List.flatten_cons, List.replicate_succ]; simp at ih ⊢
    rw [eS]
    have a0 := Same.new (o := .lst [.int 65536]) hl1
    have a1 := Same.new (o := .lst (nV (List.replicate n LwBits.LOW))) hS
    have s1 := a0.trans a1
    refine ⟨Nat.zero_le _, fun W hW => ?_⟩
    have a2 := Same.new (o := .lst []) hW
    have s2 := s1.trans a2
    have nSW : S ≠ W := ne_of_none upd_same hW
    have hSn : H S = none := a0.free hS
    have hWn : H W = none := s1.free hW
    have e1 : (((rs.map V.ref).length : Nat) : Int) - 1 - (-1) = ((shs.length : Nat) : Int) := by rw [List.length_map, hrl]; omega
    refine ⟨_, rfl, p, _, rfl, .inl (SqL.of (s2 _ _ hp)), _, _, rfl, rfl, _, rfl, _, rfl, _, _, _, shs.length, rfl, ?_, ?_⟩
    · have := RgC.neg (i := (((rs.map V.ref).length : Nat) : Int) - 1) (j := -1) (by rw [List.length_map, hrl]; omega) (by rw [List.length_map, hrl]; omega) (by decide) (by decide)
      rw [e1] at this
      exact this
    refine for_rangeC (fun i σ H' => ∃ v4 v5 v6 v7, σ = [some (.ref p), some (iV n), some (.ref S), some (.ref W), v4, v5, v6, v7] ∧ Same H H' ∧ H' S = some (.lst (nV (LwBits.pushAll n (shs.length - i) (shs.drop (shs.length - i))).1)) ∧ H' W = some (.lst (nV (LwBits.pushAll n (shs.length - i) (shs.drop (shs.length - i))).2.reverse)))
      ⟨none, none, none, none, rfl, s2, ?_, ?_⟩ ?_ ?_
    · rw [upd_ne nSW, upd_same, Nat.sub_zero, List.drop_length]; rfl
    · rw [upd_same, Nat.sub_zero, List.drop_length]; rfl
    · rintro i σ H1 hi ⟨v4, v5, v6, v7, rfl, sm, hS1, hW1⟩
      obtain ⟨j, hj⟩ : ∃ j, j = shs.length - 1 - i := ⟨_, rfl⟩
      have hjl : j < shs.length := by omega
      have ej : (((rs.map V.ref).length : Nat) : Int) - 1 + ((i : Nat) : Int) * (-1) = ((j : Nat) : Int) := by rw [List.length_map, hrl]; omega
      have e2 : shs.length - (i + 1) = j := by omega
      have e3 : shs.length - i = j + 1 := by omega
      rw [e3] at hS1 hW1
      rw [ej]
      obtain ⟨b, sz, esh⟩ : ∃ b sz, shs[j]? = some (b, sz) := ⟨_, _, List.getElem?_eq_getElem hjl⟩
      obtain ⟨hs0, hs1⟩ := hs (b, sz) (List.mem_of_getElem? esh)
      obtain ⟨r, er, hr1⟩ := ht.get (j := j) (vs := shV (b, sz)) (by rw [List.getElem?_map, esh]; rfl)
      have er' : (rs.map V.ref)[j]? = some (.ref r) := by rw [List.getElem?_map, er]; rfl
      have hr2 := sm _ _ hr1
      have hp1 := sm _ _ hp
      have ed : shs.drop j = (b, sz) :: shs.drop (j + 1) := by
        rw [List.drop_eq_getElem_cons hjl]
        rw [List.getElem?_eq_getElem hjl] at esh
        rw [Option.some.inj esh]
      have el : ((j : Nat) : Int) % (n : Int) = ((j % n : Nat) : Int) := (Int.natCast_emod j n).symm
      have hln : j % n < n := Nat.mod_lt j h0
      obtain ⟨X, hX⟩ : ∃ X, X = LwBits.pushAll n (j + 1) (shs.drop (j + 1)) := ⟨_, rfl⟩
      rw [← hX] at hS1 hW1
      obtain ⟨g1, g2⟩ := push_len n (shs.drop (j + 1)) (j + 1)
      rw [← hX] at g1 g2
      have gl : X.2.length ≤ 1000 := Nat.le_trans g2 (by rw [List.length_drop]; omega)
      have hpush : LwBits.pushAll n j (shs.drop j) = (X.1.set (j % n) (LwBits.push (X.1.getD (j % n) 0) b sz).2, (LwBits.push (X.1.getD (j % n) 0) b sz).1.toList ++ X.2) := by
        rw [ed, hX]; rfl
      refine ⟨_, rfl, _, rfl, _, _, rfl, rfl, (by show (0 : Int) < (n : Int); omega), ?_⟩
      show gName 5 (V.int (((j : Nat) : Int) % (n : Int))) _ _ _
      rw [el]
      refine ⟨_, rfl, _, rfl, p, _, _, _, rfl, rfl, SqL.of hp1, at_of (j := j) rfl er', r, _, _, _, rfl, rfl, SqT.of hr2, at_of (j := 0) rfl rfl, ?_⟩
      refine ⟨_, rfl, _, rfl, p, _, _, _, rfl, rfl, SqL.of hp1, at_of (j := j) rfl er', r, _, _, _, rfl, rfl, SqT.of hr2, at_of (j := 1) rfl rfl, ?_⟩
      refine ⟨_, rfl, _, rfl, S, _, _, _, rfl, rfl, SqL.of hS1, at_of (j := j % n) rfl (nV_get (by rw [g1]; exact hln)), _, rfl, X.1.getD (j % n) 0, sz, rfl, _, rfl, ?_⟩
      have fz : ∀ (y : Nat), (y : Int) / (sz : Int) * 32768 + (y : Int) % (sz : Int) + (b : Int) = ((y / sz * LwBits.ALL + (y % sz + b) : Nat) : Int) := fun y => by
        have e1 : (y : Int) / (sz : Int) = ((y / sz : Nat) : Int) := (Int.natCast_ediv y sz).symm
        have e2 : (y : Int) % (sz : Int) = ((y % sz : Nat) : Int) := (Int.natCast_emod y sz).symm
        rw [e1, e2]
        have hA : LwBits.ALL = 32768 := rfl
        rw [hA]
        omega
      by_cases hfull : sz * 131072 ≤ X.1.getD (j % n) 0
      · dsimp only
        rw [if_pos (by simpa using hfull)]
        have ew : ((X.1.getD (j % n) 0 : Nat) : Int) % 65536 = ((X.1.getD (j % n) 0 % 65536 : Nat) : Int) := by omega
        have ey : ((X.1.getD (j % n) 0 : Nat) : Int) / 65536 = ((X.1.getD (j % n) 0 / 65536 : Nat) : Int) := by omega
        refine ⟨_, rfl, .inl ⟨rfl, _, SqL.of hW1⟩, _, rfl, _, rfl, S, _, _, _, rfl, rfl, SqL.of hS1, at_of (j := j % n) rfl (nV_get (by rw [g1]; exact hln)), _, _, rfl, rfl, (by show (0 : Int) < 65536; decide), W, _, _, rfl, rfl, hW1, ?_, ?_⟩
        · rw [nV_len, List.length_reverse]; exact Nat.lt_of_le_of_lt gl (by decide)
        have hS2 : (upd H1 W (.lst (nV X.2.reverse ++ [V.int (((X.1.getD (j % n) 0 : Nat) : Int) % 65536)]))) S = some (.lst (nV X.1)) := by rw [upd_ne nSW]; exact hS1
        refine ⟨_, rfl, _, rfl, S, _, _, _, rfl, rfl, SqL.of hS2, at_of (j := j % n) rfl (nV_get (by rw [g1]; exact hln)), _, _, rfl, rfl, ⟨by decide, by decide⟩, _, rfl, _, rfl, S, _, _, j % n, rfl, rfl, hS2, ixN_nat rfl (by rw [nV_len, g1]; exact hln), ?_⟩
        have hS3 : (upd (upd H1 W (.lst (nV X.2.reverse ++ [V.int (((X.1.getD (j % n) 0 : Nat) : Int) % 65536)]))) S (.lst ((nV X.1).set (j % n) (V.int (((X.1.getD (j % n) 0 : Nat) : Int) / 65536))))) S = some (.lst (nV (X.1.set (j % n) (X.1.getD (j % n) 0 / 65536)))) := by
          rw [upd_same, ey, nV_set]
        have gy : (X.1.set (j % n) (X.1.getD (j % n) 0 / 65536)).getD (j % n) 0 = X.1.getD (j % n) 0 / 65536 := by
          rw [List.getD_eq_getElem?_getD, List.getElem?_set_self (by rw [g1]; exact hln)]; rfl
        have gq := nV_get (l := X.1.set (j % n) (X.1.getD (j % n) 0 / 65536)) (i := j % n) (by rw [List.length_set, g1]; exact hln)
        rw [gy] at gq
        refine ⟨_, rfl, _, rfl, S, _, _, _, rfl, rfl, SqL.of hS3, at_of (j := j % n) rfl gq, _, rfl, _, _, rfl, rfl, ⟨by omega, by omega⟩, _, _, rfl, rfl, .inr ⟨by decide, by decide⟩, _, rfl, _, rfl, S, _, _, _, rfl, rfl, SqL.of hS3, at_of (j := j % n) rfl gq, _, rfl, _, _, rfl, rfl, (by show (0 : Int) < (sz : Int); omega), _, _, rfl, rfl, _, rfl, _, _, rfl, rfl,
          _, rfl, _, rfl, S, _, _, j % n, rfl, rfl, hS3, ixN_nat rfl (by rw [nV_len, List.length_set, g1]; exact hln), ?_⟩
        refine ⟨_, _, _, _, rfl, fun c o e => ?_, ?_, ?_⟩
        · rw [upd_ne (ne_of_none e hSn), upd_ne (ne_of_none e hSn), upd_ne (ne_of_none e hWn)]; exact sm _ _ e
        · rw [upd_same, e2, hpush]
          show some (HO.lst ((nV _).set _ (V.int _))) = _
          rw [fz, ← nV_set, List.set_set]
          unfold LwBits.push
          dsimp only
          rw [if_pos hfull]
        · rw [upd_ne (Ne.symm nSW), upd_ne (Ne.symm nSW), upd_same, e2, hpush]
          unfold LwBits.push
          dsimp only
          rw [if_pos hfull, ew]
          simp
      · dsimp only
        rw [if_neg (by simpa using hfull)]
        refine ⟨_, rfl, _, rfl, S, _, _, _, rfl, rfl, SqL.of hS1, at_of (j := j % n) rfl (nV_get (by rw [g1]; exact hln)), _, rfl, _, _, rfl, rfl, ⟨by omega, by omega⟩, _, _, rfl, rfl, .inr ⟨by decide, by decide⟩, _, rfl, _, rfl, S, _, _, _, rfl, rfl, SqL.of hS1, at_of (j := j % n) rfl (nV_get (by rw [g1]; exact hln)), _, rfl, _, _, rfl, rfl, (by show (0 : Int) < (sz : Int); omega), _, _, rfl, rfl, _, rfl, _, _, rfl, rfl,
          _, rfl, _, rfl, S, _, _, j % n, rfl, rfl, hS1, ixN_nat rfl (by rw [nV_len, g1]; exact hln), ?_⟩
        refine ⟨_, _, _, _, rfl, fun c o e => ?_, ?_, ?_⟩
        · rw [upd_ne (ne_of_none e hSn)]; exact sm _ _ e
        · rw [upd_same, e2, hpush]
          show some (HO.lst ((nV _).set _ (V.int _))) = _
          rw [fz, ← nV_set]
          unfold LwBits.push
          dsimp only
          rw [if_neg hfull]
        · rw [upd_ne (Ne.symm nSW), e2, hpush, hW1]
          unfold LwBits.push
          dsimp only
          rw [if_neg hfull]
          rfl
    · rintro σ H1 ⟨v4, v5, v6, v7, rfl, sm, hS1, hW1⟩
      rw [Nat.sub_self, List.drop_zero] at hS1 hW1
      obtain ⟨g1, g2⟩ := push_len n shs 0
      exact ⟨_, rfl, _, rfl, S, W, _, _, rfl, SqL.of hS1, SqL.of hW1, by omega, by omega, fun H' q s3 hq hl' => k H' q (sm.trans s3) (sm.free hq) hl'⟩
end FB
end
section
namespace FB
open PySem PySem.Spec PyProof.Rows L2 FM
open LwBits (Item Models)
variable {P : Program} {w : World} {K : PySem.W.Frag} {mg : Str → Option Value} {base : Heap}
structure RowS where
  lanes : Nat
  total : Nat
  ms : Models
  group : List Item
def RowS.go (R : RowS) (it : Item) : RowS := ⟨R.lanes, R.total + 1, (goOn R.lanes (R.ms, R.group) it).1, (goOn R.lanes (R.ms, R.group) it).2⟩
def rf (n : Nat) (l : Addr) (tot : Nat) (wl : Addr) : List (Str × V) := [("lanes", iV n), ("models", .ref l), ("total", iV tot), ("waiting", .ref wl)]
theorem rf_lanes (n : Nat) (l : Addr) (tot : Nat) (wl : Addr) : (rf n l tot wl).lookup ("lanes" : Str) = some (iV n) := rfl
theorem rf_models (n : Nat) (l : Addr) (tot : Nat) (wl : Addr) : (rf n l tot wl).lookup ("models" : Str) = some (.ref l) := rfl
theorem rf_total (n : Nat) (l : Addr) (tot : Nat) (wl : Addr) : (rf n l tot wl).lookup ("total" : Str) = some (iV tot) := rfl
theorem rf_waiting (n : Nat) (l : Addr) (tot : Nat) (wl : Addr) : (rf n l tot wl).lookup ("waiting" : Str) = some (.ref wl) := rfl
structure RowAt (T : Txt K mg) (H : Hp) (a l wl : Addr) (as bs : List Addr) (R : RowS) : Prop where
  ob : ∃ dx, H a = some (.ins T.C_Row dx (rf R.lanes l R.total wl))
  md : ModelsAt T H l R.ms as bs
  wt : TupsL H wl (itsV (symsOf R.group))
  nd : (a :: l :: wl :: (as ++ bs)).Nodup
  l0 : 0 < R.lanes
  l16 : R.lanes ≤ 16
  ok : MsOk R.ms
  gl : R.group.length = R.total % R.lanes
  gi : ∀ it ∈ R.group, ItOk (shp R.ms) it
theorem symsOf_len (g : List Item) : (symsOf g).length ≤ g.length := List.length_filter_le _ _
theorem ModelsAt.mem_a {T : Txt K mg} {H : Hp} {l : Addr} {ms : Models} {as bs : List Addr} (M : ModelsAt T H l ms as bs) {a : Addr} (h : a ∈ as) : ∃ dx fs, H a = some (.ins T.C_Model dx fs) := by
  obtain ⟨j, hj⟩ := List.getElem?_of_mem h
  have hjl := (List.getElem?_eq_some_iff.mp hj).1
  rw [M.la] at hjl
  obtain ⟨a', b, h1, h2, ⟨d3, h3⟩, h4⟩ := M.at_ j _ (List.getElem?_eq_getElem hjl)
  rw [hj] at h1; cases h1
  exact ⟨_, _, h3⟩
theorem ModelsAt.mem_b {T : Txt K mg} {H : Hp} {l : Addr} {ms : Models} {as bs : List Addr} (M : ModelsAt T H l ms as bs) {b : Addr} (h : b ∈ bs) : ∃ m ∈ ms, H b = some (.lst (nV m.begins)) := by
  obtain ⟨j, hj⟩ := List.getElem?_of_mem h
  have hjl := (List.getElem?_eq_some_iff.mp hj).1
  rw [M.lb] at hjl
  obtain ⟨a', b', h1, h2, ⟨d3, h3⟩, h4⟩ := M.at_ j _ (List.getElem?_eq_getElem hjl)
  rw [hj] at h2; cases h2
  exact ⟨_, List.getElem_mem hjl, h4⟩
theorem ModelsAt.nd {T : Txt K mg} {H : Hp} {l : Addr} {ms : Models} {as bs : List Addr} (M : ModelsAt T H l ms as bs) (ok : MsOk ms) : (l :: (as ++ bs)).Nodup := by
  refine List.nodup_cons.mpr ⟨fun h => ?_, List.nodup_append.mpr ⟨M.na, M.nb, fun a ha b hb e => ?_⟩⟩
  · rcases List.mem_append.mp h with z | z
    · obtain ⟨dx, fs, e⟩ := M.mem_a z
      rw [M.lst] at e; cases e
    · obtain ⟨m, hm, e⟩ := M.mem_b z
      rw [M.lst] at e
      have e := HO.lst.inj (Option.some.inj e)
      have n2 := (ok m hm).n2
      unfold LwBits.Model.n at n2
      cases hb : m.begins with
      | nil => rw [hb] at n2; simp at n2
      | cons x r =>
        rw [hb] at e
        cases as with
        | nil => cases e
        | cons y t => cases e
  · subst e
    obtain ⟨dx, fs, e⟩ := M.mem_a ha
    obtain ⟨m, hm, e2⟩ := M.mem_b hb
    rw [e] at e2; cases e2
theorem ModelsAt.step {T : Txt K mg} {H H' : Hp} {l : Addr} {ms : Models} {as bs : List Addr} (M : ModelsAt T H l ms as bs) (nd : (l :: (as ++ bs)).Nodup) {j : Nat} {m m' : SModel} {a b : Addr} (hj : ms[j]? = some m) (ha : as[j]? = some a) (hb : bs[j]? = some b)
    (h : ModelAt T H' a b m') (kp : Kp [a, b] H H') : ModelsAt T H' l (ms.modify j fun _ => m') as bs := by
  have nl := (List.nodup_cons.mp nd).1
  have nab := (List.nodup_cons.mp nd).2
  have ma : a ∈ as := List.mem_of_getElem? ha
  have mb : b ∈ bs := List.mem_of_getElem? hb
  refine ⟨kp _ _ M.lst ?_, M.na, M.nb, by rw [M.la, List.length_modify], by rw [M.lb, List.length_modify], fun k x hx => ?_⟩
  · intro z
    have z : l = a ∨ l = b := by simpa using z
    rcases z with z | z
    · exact nl (z ▸ List.mem_append_left _ ma)
    · exact nl (z ▸ List.mem_append_right _ mb)
  · rw [List.getElem?_modify] at hx
    cases e : ms[k]? with
    | none => rw [e] at hx; cases hx
    | some y =>
      rw [e] at hx
      have hx : some (if j = k then m' else y) = some x := hx
      by_cases ejk : j = k
      · rw [if_pos ejk] at hx
        cases hx
        subst ejk
        exact ⟨a, b, ha, hb, h⟩
      · rw [if_neg ejk] at hx
        cases hx
        obtain ⟨a2, b2, h1, h2, ⟨dx, h3⟩, h4⟩ := M.at_ k _ e
        have ma2 : a2 ∈ as := List.mem_of_getElem? h1
        have mb2 : b2 ∈ bs := List.mem_of_getElem? h2
        have dj := (List.nodup_append.mp nab).2.2
        have na : a2 ≠ a := fun z => ejk (nd_ix M.na ha (z ▸ h1))
        have nb : b2 ≠ b := fun z => ejk (nd_ix M.nb hb (z ▸ h2))
        exact ⟨a2, b2, h1, h2, ⟨dx, kp _ _ h3 (by simp only [List.mem_cons, List.not_mem_nil, or_false, not_or]; exact ⟨na, fun z => dj a2 ma2 b mb z⟩)⟩, kp _ _ h4 (by simp only [List.mem_cons, List.not_mem_nil, or_false, not_or]; exact ⟨fun z => dj a ma b2 mb2 z.symm, nb⟩)⟩
theorem ModelsAt.kp {T : Txt K mg} {H H' : Hp} {l : Addr} {ms : Models} {as bs S : List Addr} (M : ModelsAt T H l ms as bs) (kp : Kp S H H') (hl : l ∉ S) (ha : ∀ a ∈ as, a ∉ S) (hb : ∀ b ∈ bs, b ∉ S) : ModelsAt T H' l ms as bs :=
  ⟨kp _ _ M.lst hl, M.na, M.nb, M.la, M.lb, fun j m h => let ⟨a, b, h1, h2, ⟨dx, h3⟩, h4⟩ := M.at_ j m h; ⟨a, b, h1, h2, ⟨dx, kp _ _ h3 (ha a (List.mem_of_getElem? h1))⟩, kp _ _ h4 (hb b (List.mem_of_getElem? h2))⟩⟩
theorem modify_saw (ms : Models) (j s : Nat) {m : SModel} (h : ms[j]? = some m) : (ms.modify j fun _ => m.saw s) = LwBits.sawItem ms (.sym j s) := by
  show _ = ms.modify j fun (x : SModel) => x.saw s
  refine List.ext_getElem? fun k => ?_
  rw [List.getElem?_modify, List.getElem?_modify]
  by_cases e : j = k
  · subst e; rw [h]; simp
  · cases ms[k]? <;> simp [e]
def ShOk (ms : Models) : Item → Prop
  | .sym m s => ∃ x, ms[m]? = some x ∧ s < x.n
  | .plain b _ => b ≤ 15
theorem ItOk.sh {ms : Models} {it : Item} (h : ItOk (shp ms) it) : ShOk ms it := by
  cases it with
  | sym m s => obtain ⟨n, e, hs⟩ := h; obtain ⟨x, e2, rfl⟩ := shp_get e; exact ⟨x, e2, hs⟩
  | plain b n => exact h.2.1
def sp_Row_piece_share (T : Txt K mg) : Sp := fun vs H Q _ => ∃ (a l wl r : Addr) (as bs : List Addr) (R : RowS) (it : Item), vs = [.ref a, .ref r] ∧ RowAt T H a l wl as bs R ∧ H r = some (.tup (itV it)) ∧ ShOk R.ms it ∧ newTup (shV (it.share R.ms)) H Q
theorem ok_Row_piece_share (T : Txt K mg) : FnOk P w K mg base CX0 2 T.f_Row_piece_share T.d_Row_piece_share ["self", "piece"] (sp_Row_piece_share T) := by
  refine T.F_Row_piece_share.ok sc_Row_piece_share (fun vs H Q E h => ?_) (fun cdv A outer s H vs Q E hr h => ?_)
  · obtain ⟨a, l, wl, r, as, bs, R, it, rfl, _⟩ := h; rfl
  · obtain ⟨a, l, wl, r, as, bs, R, it, rfl, hR, ht, hs, k⟩ := h
    refine ⟨_, (pss_cons (ps_if (pt_cmpR op_eq (pe_ix ix_tup (pv 1) pe_int (fun _ _ => rfl)) (pe_gi rfl T.g_SYMBOL) (nomark _)) (pss_one (ps_ret (pe_meth (pe_ix ix_list (pe_fld (pv 0) rfl) (pe_ix ix_tup (pv 1) pe_int (fun _ _ => rfl)) (fun _ _ => rfl)) T.cl_Model T.me_Model_share (ok_Model_share T) (hr.mono (by decide)) T.b_Model_share .nil pass0 (pa_cons (pe_ix ix_tup (pv 1) pe_int (fun _ _ => rfl)) pa_nil)))) pss_nil) (pss_cons (ps_set (i := 2) sc_Row_piece_share.nd rfl (Or.inl rfl) (pe_op op_shl pe_int (pe_op op_sub (pe_gi rfl T.g_PIECE_BITS) (pe_ix ix_tup (pv 1) pe_int (fun _ _ => rfl))))) (pss_one (ps_ret (pe_tup (pa_cons (pe_op op_mul (pe_ix ix_tup (pv 1) pe_int (fun _ _ => rfl)) (pv 2)) (pa_cons (pv 2) pa_nil))))))), ?_⟩
    obtain ⟨dx, ho⟩ := hR.ob
    cases it with
    | sym m s =>
      obtain ⟨x, ex, hs⟩ := hs
      refine ⟨_, rfl, r, _, _, _, rfl, rfl, SqT.of ht, at_of (j := 0) rfl rfl, rfl, _, rfl, iteI (fun h => ?_) (fun h => absurd rfl h)⟩
      have hm : m < R.ms.length := (List.getElem?_eq_some_iff.mp ex).1
      obtain ⟨a1, b1, h1, h2, hM⟩ := hR.md.at_ m x ex
      obtain ⟨⟨dm, h3⟩, h4⟩ := id hM
      refine ⟨_, rfl, a, _, dx, _, _, rfl, ho, T.cl_Row, T.n_Row_models, rf_models _ _ _ _, _, rfl, r, _, _, _, rfl, rfl, SqT.of ht, at_of (j := 1) rfl rfl, l, _, _, _, rfl, rfl, SqL.of hR.md.lst, at_of (j := m) rfl (by rw [List.getElem?_map, h1]; rfl),
        a1, dm, _, rfl, h3, rfl, _, rfl, r, _, _, _, rfl, rfl, SqT.of ht, at_of (j := 2) rfl rfl, a1, b1, x, s, rfl, hM, hR.ok x (List.mem_of_getElem? ex), hs, ?_⟩
      have e3 : (Item.sym m s).share R.ms = (x.begin_ s, x.share s) := by
        show (match R.ms[m]? with | some x => (x.begin_ s, x.share s) | none => (0, LwBits.ALL)) = _
        rw [ex]
      rw [e3] at k
      exact k
    | plain b n =>
      have hb : b ≤ 15 := hs
      refine ⟨_, rfl, r, _, _, _, rfl, rfl, SqT.of ht, at_of (j := 0) rfl rfl, rfl, _, rfl, iteI (fun h => by cases h) (fun h => ?_)⟩
      refine ⟨_, rfl, r, _, _, _, rfl, rfl, SqT.of ht, at_of (j := 1) rfl rfl, _, _, rfl, rfl, _, _, rfl, rfl, ⟨by omega, by omega, by decide⟩, ?_⟩
      refine ⟨_, rfl, r, _, _, _, rfl, rfl, SqT.of ht, at_of (j := 2) rfl rfl, _, rfl, _, _, rfl, rfl, .inr ⟨?_, ?_⟩, _, rfl, (by show 2 ≤ sizeLine; decide), fun r1 hr1 => k _ r1 (Same.new hr1) hr1 ?_⟩
      · have e : (15 - (b : Int)) = ((15 - b : Nat) : Int) := by omega
        show _ < 1 * 2 ^ (15 - (b : Int)).toNat
        rw [e, Int.toNat_natCast, Int.one_mul, two_pow_cast]
        exact Int.lt_of_lt_of_le (by decide : -(2 ^ 64) < (0 : Int)) (Int.natCast_nonneg _)
      · have e : (15 - (b : Int)) = ((15 - b : Nat) : Int) := by omega
        show 1 * 2 ^ (15 - (b : Int)).toNat < _
        rw [e, Int.toNat_natCast, Int.one_mul, two_pow_cast]
        have h1 : 2 ^ (15 - b) ≤ 2 ^ 15 := Nat.pow_le_pow_right (by decide) (by omega)
        exact Int.lt_of_le_of_lt (Int.ofNat_le.mpr h1) (by decide)
      · rw [upd_same]
        show some (HO.tup [V.int ((n : Int) * (1 * 2 ^ (15 - (b : Int)).toNat)), V.int (1 * 2 ^ (15 - (b : Int)).toNat)]) = some (HO.tup [V.int ((n * 2 ^ (15 - b) : Nat) : Int), V.int ((2 ^ (15 - b) : Nat) : Int)])
        have e : (15 - (b : Int)) = ((15 - b : Nat) : Int) := by omega
        rw [e, Int.toNat_natCast, Int.one_mul, two_pow_cast, Int.natCast_mul]
end FB
end
section
namespace FB
open PySem PySem.Spec PyProof.Rows L2 FM
open LwBits (Item Models)
variable {P : Program} {w : World} {K : PySem.W.Frag} {mg : Str → Option Value} {base : Heap}
theorem mod_full {t n g : Nat} (h0 : 0 < n) (hg : g = t % n) (hz : (t + 1) % n = 0) : g + 1 = n := by
  have h1 := Nat.div_add_mod t n
  have h2 := Nat.mod_lt t h0
  by_cases h : t % n + 1 < n
  · have e : t + 1 = (t % n + 1) + n * (t / n) := by omega
    rw [e, Nat.add_mul_mod_self_left, Nat.mod_eq_of_lt h] at hz
    omega
  · omega
theorem mod_more {t n g : Nat} (h0 : 0 < n) (hg : g = t % n) (hz : ¬ (t + 1) % n = 0) : ¬ g + 1 = n ∧ (t + 1) % n = g + 1 := by
  have h1 := Nat.div_add_mod t n
  have h2 := Nat.mod_lt t h0
  have e : t + 1 = (t % n + 1) + n * (t / n) := by omega
  by_cases h : t % n + 1 < n
  · rw [e, Nat.add_mul_mod_self_left, Nat.mod_eq_of_lt h]
    omega
  · exfalso
    have e2 : t % n + 1 = n := by omega
    rw [e, Nat.add_mul_mod_self_left, e2, Nat.mod_self] at hz
    exact hz rfl
def sp_Row_end_group (T : Txt K mg) : Sp := fun vs H Q _ => ∃ (a l wl : Addr) (as bs : List Addr) (n tot : Nat) (ms : Models) (g : List Item), vs = [.ref a] ∧ (∃ dx, H a = some (.ins T.C_Row dx (rf n l tot wl))) ∧ ModelsAt T H l ms as bs ∧ TupsL H wl (itsV (symsOf g)) ∧ (a :: l :: wl :: (as ++ bs)).Nodup ∧ MsOk ms ∧ (∀ it ∈ g, ItOk (shp ms) it) ∧
  ∀ (H' : Hp) (wl' : Addr), (∃ dx, H' a = some (.ins T.C_Row dx (rf n l tot wl'))) → ModelsAt T H' l (LwBits.sawAll ms g) as bs → H' wl' = some (.lst []) → H wl' = none → Kp (a :: (as ++ bs)) H H' → Q .non H'
theorem ok_Row_end_group (T : Txt K mg) : FnOk P w K mg base CX0 3 T.f_Row_end_group T.d_Row_end_group ["self"] (sp_Row_end_group T) := by
  refine T.F_Row_end_group.ok sc_Row_end_group (fun vs H Q E h => ?_) (fun cdv A outer s H vs Q E hr h => ?_)
  · obtain ⟨a, l, wl, as, bs, n, tot, ms, g, rfl, _⟩ := h; rfl
  · obtain ⟨a, l, wl, as, bs, n, tot, ms, g, rfl, ⟨dx, ho⟩, hM, ⟨rs, hw, ht⟩, nd, ok, gi, k⟩ := h
    refine ⟨_, (pss_cons (ps_for PassesOwn.never rfl (pi_list (pe_fld (pv 0) rfl)) (pg_name (i := 1) sc_Row_end_group.nd rfl (Or.inl rfl)) (pss_one (ps_expr (pe_meth (pe_ix ix_list (pe_fld (pv 0) rfl) (pe_ix ix_tup (pv 1) pe_int (fun _ _ => rfl)) (fun _ _ => rfl)) T.cl_Model T.me_Model_see (ok_Model_see T) (hr.mono (by decide)) T.b_Model_see .nil pass0 (pa_cons (pe_ix ix_tup (pv 1) pe_int (fun _ _ => rfl)) pa_nil))))) (pss_one (ps_fld (pv 0) (pe_lst pa_nil) rfl))), ?_⟩
    have na : a ∉ as ++ bs := fun z => (List.nodup_cons.mp nd).1 (List.mem_cons_of_mem _ (List.mem_cons_of_mem _ z))
    have nwl : wl ∉ as ++ bs := fun z => (List.nodup_cons.mp (List.nodup_cons.mp (List.nodup_cons.mp nd).2).2).1 z
    have ndl : (l :: (as ++ bs)).Nodup := hM.nd ok
    have hrl : rs.length = (symsOf g).length := by rw [ht.len, List.length_map]
    refine ⟨_, rfl, a, _, dx, _, _, rfl, ho, T.cl_Row, T.n_Row_waiting, rf_waiting _ _ _ _, wl, rfl, ⟨_, SqL.of hw⟩, for_list (K := K) (a := wl) (xs := rs.map V.ref) (fun i σ H' => ∃ v1, σ = [some (.ref a), v1] ∧ ModelsAt T H' l (LwBits.sawAll ms ((symsOf g).take i)) as bs ∧ Kp (as ++ bs) H H')
      ⟨_, rfl, hM, Kp.refl _ _⟩ (fun i σ H' _ ⟨_, _, _, kp⟩ => SqL.of (kp _ _ hw nwl)) ?_ ?_⟩
    · rintro i y σ H1 hi ⟨v1, rfl, hM1, kp1⟩
      have hil : i < rs.length := by
        have := (List.getElem?_eq_some_iff.mp hi).1
        simpa using this
      obtain ⟨it, eit⟩ : ∃ it, (symsOf g)[i]? = some it := ⟨_, List.getElem?_eq_getElem (by omega)⟩
      have hmem := List.mem_of_getElem? eit
      have hit : it ∈ g ∧ isSym it = true := List.mem_filter.mp hmem
      obtain ⟨r, er, hr1⟩ := ht.get (j := i) (vs := itV it) (by rw [List.getElem?_map, eit]; rfl)
      rw [List.getElem?_map, er] at hi
      cases hi
      cases it with
      | plain b v => exact absurd hit.2 (by simp [isSym])
      | sym m s =>
        obtain ⟨z, ez, hs⟩ := gi _ hit.1
        have ez1 : (shp (LwBits.sawAll ms ((symsOf g).take i)))[m]? = some z := by rw [sawAll_shp]; exact ez
        obtain ⟨x, ex, rfl⟩ := shp_get ez1
        obtain ⟨a1, b1, h1, h2, hMm⟩ := hM1.at_ m x ex
        obtain ⟨⟨dm, h3⟩, h4⟩ := id hMm
        have ho1 := kp1 _ _ ho na
        have nr : r ∉ as ++ bs := fun z => by
          rcases List.mem_append.mp z with z | z
          · obtain ⟨_, _, e⟩ := hM.mem_a z
            rw [hr1] at e; cases e
          · obtain ⟨_, _, e⟩ := hM.mem_b z
            rw [hr1] at e; cases e
        have hr2 := kp1 _ _ hr1 nr
        refine ⟨_, rfl, a, _, dx, _, _, rfl, ho1, T.cl_Row, T.n_Row_models, rf_models _ _ _ _, _, rfl, r, _, _, _, rfl, rfl, SqT.of hr2, at_of (j := 1) rfl rfl, l, _, _, _, rfl, rfl, SqL.of hM1.lst, at_of (j := m) rfl (by rw [List.getElem?_map, h1]; rfl),
          a1, dm, _, rfl, h3, rfl, _, rfl, r, _, _, _, rfl, rfl, SqT.of hr2, at_of (j := 2) rfl rfl, a1, b1, x, s, rfl, hMm, sawAll_ok ok x (List.mem_of_getElem? ex), fun H2 hM2 kp2 => ?_⟩
        refine ⟨_, rfl, ?_, ?_⟩
        · have q := hM1.step ndl ex h1 h2 hM2 kp2
          rw [modify_saw _ _ _ ex] at q
          rw [take_snoc eit, sawAll_app]
          exact q
        · refine kp1.trans (kp2.mono fun c hc => ?_)
          have hc : c = a1 ∨ c = b1 := by simpa using hc
          rcases hc with z | z
          · rw [z]; exact List.mem_append_left _ (List.mem_of_getElem? h1)
          · rw [z]; exact List.mem_append_right _ (List.mem_of_getElem? h2)
    · rintro σ H1 ⟨v1, rfl, hM1, kp1⟩
      rw [List.length_map, hrl, List.take_length, sawAll_syms] at hM1
      have ho1 := kp1 _ _ ho na
      refine ⟨Nat.zero_le _, fun D hD => ?_⟩
      have nDa : a ≠ D := ne_of_none ho1 hD
      refine ⟨_, rfl, a, _, dx, _, rfl, (by rw [upd_ne nDa]; exact ho1), T.cl_Row, T.n_Row_waiting, (by show 4 < 1000; decide), ?_⟩
      have hDn : H D = none := by
        cases e : H D with
        | none => rfl
        | some o =>
          by_cases z : D ∈ as ++ bs
          · rcases List.mem_append.mp z with z | z
            · obtain ⟨_, _, e⟩ := hM1.mem_a z
              rw [hD] at e; cases e
            · obtain ⟨_, _, e⟩ := hM1.mem_b z
              rw [hD] at e; cases e
          · rw [kp1 _ _ e z] at hD; cases hD
      have kpu : Kp [a] H1 (upd (upd H1 D (.lst [])) a (.ins T.C_Row dx (rf n l tot D))) := fun c o e n => by
        rw [upd_ne (by simpa using n), upd_ne (ne_of_none e hD)]; exact e
      refine k _ D ⟨dx, upd_same⟩ (hM1.kp kpu ?_ ?_ ?_) (by rw [upd_ne (Ne.symm nDa), upd_same]) hDn ?_
      · intro z
        have z : l = a := by simpa using z
        exact (List.nodup_cons.mp nd).1 (by rw [z]; exact List.mem_cons_self)
      · intro c hc z
        have z : c = a := by simpa using z
        exact na (z ▸ List.mem_append_left _ hc)
      · intro c hc z
        have z : c = a := by simpa using z
        exact na (z ▸ List.mem_append_right _ hc)
      · intro c o e n
        have n : c ≠ a ∧ c ∉ as ++ bs := by simpa only [List.mem_cons, not_or] using n
        exact kpu c o (kp1 c o e n.2) (by simpa using n.1)
theorem itV_0 (it : Item) : (itV it)[0]? = some (.int (if isSym it then 0 else 1)) := by cases it <;> rfl
def sp_Row_go_by (T : Txt K mg) : Sp := fun vs H Q _ => ∃ (a l wl r : Addr) (as bs : List Addr) (R : RowS) (it : Item), vs = [.ref a, .ref r] ∧ RowAt T H a l wl as bs R ∧ H r = some (.tup (itV it)) ∧ ItOk (shp R.ms) it ∧
  ∀ (H' : Hp) (wl' : Addr), RowAt T H' a l wl' as bs (R.go it) → (wl' = wl ∨ H wl' = none) → Kp (a :: wl :: (as ++ bs)) H H' → Q .non H'
theorem ok_Row_go_by (T : Txt K mg) : FnOk P w K mg base CX0 4 T.f_Row_go_by T.d_Row_go_by ["self", "piece"] (sp_Row_go_by T) := by
  refine T.F_Row_go_by.ok sc_Row_go_by (fun vs H Q E h => ?_) (fun cdv A outer s H vs Q E hr h => ?_)
  · obtain ⟨a, l, wl, r, as, bs, R, it, rfl, _⟩ := h; rfl
  · obtain ⟨a, l, wl, r, as, bs, R, it, rfl, hR, ht, hi, k⟩ := h
    refine ⟨_, (pss_cons (ps_fld (pv 0) (pe_op op_add (pe_fld (pv 0) rfl) pe_int) rfl) (pss_cons (ps_if (pt_cmpR op_eq (pe_ix ix_tup (pv 1) pe_int (fun _ _ => rfl)) (pe_gi rfl T.g_SYMBOL) (nomark _)) (pss_one (ps_expr (pe_bm PySem.F.plainAttrs_list PySem.F.slot_list_append PySem.F.type_list_append mt_append (pe_fld (pv 0) rfl) (pa_cons (pv 1) pa_nil)))) pss_nil) (pss_one (ps_if (pt_cmpR op_eq (pe_op op_mod (pe_fld (pv 0) rfl) (pe_fld (pv 0) rfl)) pe_int (nomark _)) (pss_one (ps_expr (pe_meth0 (pv 0) T.cl_Row T.me_Row_end_group (ok_Row_end_group T) (hr.mono (by decide)) T.b_Row_end_group .nil pass0))) pss_nil)))), ?_⟩
    obtain ⟨dx, ho⟩ := hR.ob
    obtain ⟨rs, hw, hts⟩ := hR.wt
    have nd := hR.nd
    have nal : a ≠ l ∧ a ≠ wl ∧ a ∉ as ∧ a ∉ bs := by
      have := (List.nodup_cons.mp nd).1
      simpa only [List.mem_cons, List.mem_append, not_or] using this
    have nwl : wl ∉ as ∧ wl ∉ bs ∧ l ≠ wl := by
      have h1 := (List.nodup_cons.mp (List.nodup_cons.mp nd).2)
      have h2 := (List.nodup_cons.mp h1.2).1
      simp only [List.mem_cons, List.mem_append, not_or] at h1 h2
      exact ⟨h2.1, h2.2, h1.1.1⟩
    have nra : r ≠ a := ne_of ht ho (by intro z; cases z)
    have nrw : r ≠ wl := ne_of ht hw (by intro z; cases z)
    refine ⟨_, rfl, a, _, dx, _, _, rfl, ho, T.cl_Row, T.n_Row_total, rf_total _ _ _ _, _, _, rfl, rfl, _, rfl, a, _, dx, _, rfl, ho, T.cl_Row, T.n_Row_total, (by show 4 < 1000; decide), ?_⟩
    have ho1 : (upd H a (.ins T.C_Row dx (rf R.lanes l (R.total + 1) wl))) a = some (.ins T.C_Row dx (rf R.lanes l (R.total + 1) wl)) := upd_same
    have kp1 : Kp [a] H (upd H a (.ins T.C_Row dx (rf R.lanes l (R.total + 1) wl))) := Kp.upd
    have hM1 : ModelsAt T (upd H a (.ins T.C_Row dx (rf R.lanes l (R.total + 1) wl))) l R.ms as bs := hR.md.kp kp1 (by simpa using fun z => nal.1 z.symm) (fun c hc z => nal.2.2.1 ((show c = a by simpa using z) ▸ hc)) (fun c hc z => nal.2.2.2 ((show c = a by simpa using z) ▸ hc))
    have hw1 : (upd H a (.ins T.C_Row dx (rf R.lanes l (R.total + 1) wl))) wl = some (.lst (rs.map V.ref)) := kp1 _ _ hw (by simpa using fun z => nal.2.1 z.symm)
    have ht1 : (upd H a (.ins T.C_Row dx (rf R.lanes l (R.total + 1) wl))) r = some (.tup (itV it)) := kp1 _ _ ht (by simpa using nra)
    have hts1 : TupsAt (upd H a (.ins T.C_Row dx (rf R.lanes l (R.total + 1) wl))) rs (itsV (symsOf R.group)) := hts.step fun c vs e => kp1 _ _ e (by
      intro z
      have z : c = a := by simpa using z
      rw [z, ho] at e; cases e)
    have hgi2 : ∀ x ∈ R.group ++ [it], ItOk (shp R.ms) x := fun x hx => by
      rcases List.mem_append.mp hx with z | z
      · exact hR.gi x z
      · have z : x = it := by simpa using z
        rw [z]; exact hi
    show tSeq _ _ _ _ (upd H a (.ins T.C_Row dx (rf R.lanes l (R.total + 1) wl)))
    generalize hH1 : upd H a (.ins T.C_Row dx (rf R.lanes l (R.total + 1) wl)) = H1 at ho1 kp1 hM1 hw1 ht1 hts1 ⊢
    refine ⟨_, rfl, r, _, _, _, rfl, rfl, SqT.of ht1, at_of (j := 0) rfl (itV_0 it), rfl, _, rfl, iteI (fun hsy => ?_) (fun hsy => ?_)⟩
    · have hs : isSym it = true := by cases it with
        | sym m s => rfl
        | plain b v => simp [isSym] at hsy
      refine ⟨_, rfl, a, _, dx, _, _, rfl, ho1, T.cl_Row, T.n_Row_waiting, rf_waiting _ _ _ _, .inl ⟨rfl, _, SqL.of hw1⟩, _, rfl, wl, _, _, rfl, rfl, hw1, ?_, ?_⟩
      · rw [List.length_map, hts.len, List.length_map]
        have h1 := symsOf_len R.group
        have h2 := hR.gl
        have h3 := Nat.mod_lt R.total hR.l0
        have h4 := hR.l16
        exact Nat.lt_of_le_of_lt (show _ ≤ 16 by omega) (by decide)
      have kp2' : Kp [wl] H1 (upd H1 wl (.lst (rs.map V.ref ++ [V.ref r]))) := Kp.upd
      have ho2 : (upd H1 wl (.lst (rs.map V.ref ++ [V.ref r]))) a = some (.ins T.C_Row dx (rf R.lanes l (R.total + 1) wl)) := kp2' _ _ ho1 (by simpa using nal.2.1)
      have hM2 : ModelsAt T (upd H1 wl (.lst (rs.map V.ref ++ [V.ref r]))) l R.ms as bs := hM1.kp kp2' (by simpa using nwl.2.2) (fun c hc z => nwl.1 ((show c = wl by simpa using z) ▸ hc)) (fun c hc z => nwl.2.1 ((show c = wl by simpa using z) ▸ hc))
      have hW2 : TupsL (upd H1 wl (.lst (rs.map V.ref ++ [V.ref r]))) wl (itsV (symsOf (R.group ++ [it]))) := by
        refine ⟨rs ++ [r], by rw [upd_same, List.map_append]; rfl, ?_⟩
        have e : symsOf (R.group ++ [it]) = symsOf R.group ++ [it] := by rw [symsOf_app]; unfold symsOf; simp [hs]
        rw [e, itsV, List.map_append]
        refine ((hts1.step fun c vs e => kp2' _ _ e ?_).app (.one (kp2' _ _ ht1 (by simpa using nrw))))
        intro z
        have z : c = wl := by simpa using z
        rw [z, hw1] at e; cases e
      have kp2 : Kp [a, wl] H (upd H1 wl (.lst (rs.map V.ref ++ [V.ref r]))) := fun c o e n => by
        have n : c ≠ a ∧ c ≠ wl := by simpa using n
        exact kp2' _ _ (kp1 _ _ e (by simpa using n.1)) (by simpa using n.2)
      have kp2n : ∀ c, (upd H1 wl (.lst (rs.map V.ref ++ [V.ref r]))) c = none → H c = none := fun c e => by
        cases q : H c with
        | none => rfl
        | some o =>
          by_cases z1 : c = a
          · rw [z1, ho2] at e; cases e
          · by_cases z2 : c = wl
            · rw [z2, upd_same] at e; cases e
            · rw [kp2 _ _ q (by simp [z1, z2])] at e; cases e
      generalize (upd H1 wl (.lst (rs.map V.ref ++ [V.ref r]))) = H2 at ho2 hM2 hW2 kp2 kp2n kp2' ⊢
      obtain ⟨it0, hit0⟩ : ∃ it0, it0 = it := ⟨_, rfl⟩
      rw [← hit0] at k hW2 hgi2
      · refine ⟨_, rfl, a, _, dx, _, _, rfl, ho2, T.cl_Row, T.n_Row_total, rf_total _ _ _ _, _, rfl, a, _, dx, _, _, rfl, ho2, T.cl_Row, T.n_Row_lanes, rf_lanes _ _ _ _, _, _, rfl, rfl, (by show (0 : Int) < (R.lanes : Int); have := hR.l0; omega), rfl, _, rfl, iteI (fun h => ?_) (fun h => ?_)⟩
        · have hz : (R.total + 1) % R.lanes = 0 := by
            have e : (((R.total + 1 : Nat) : Int)) % (R.lanes : Int) = (((R.total + 1) % R.lanes : Nat) : Int) := (Int.natCast_emod _ _).symm
            rw [e] at h; omega
          have hfull : R.group.length + 1 = R.lanes := mod_full hR.l0 hR.gl hz
          refine ⟨_, rfl, a, dx, _, rfl, ho2, rfl, a, l, wl, as, bs, R.lanes, R.total + 1, R.ms, R.group ++ [it0], rfl, ⟨dx, ho2⟩, hM2, hW2, hR.nd, hR.ok, hgi2, fun H' wl' ho' hM' hw' hn' kp' => ?_⟩
          refine k H' wl' ⟨ho', ?_, ⟨[], hw', ?_⟩, ?_, hR.l0, hR.l16, ?_, ?_, ?_⟩ (.inr ?_) ?_
          · show ModelsAt T H' l (goOn R.lanes (R.ms, R.group) it0).1 as bs
            unfold goOn
            rw [if_pos hfull]
            exact hM'
          · show TupsAt H' [] (itsV (symsOf (goOn R.lanes (R.ms, R.group) it0).2))
            unfold goOn
            rw [if_pos hfull]
            rfl
          · have nw : wl' ∉ (a :: l :: (as ++ bs)) := fun z => by
              rcases List.mem_cons.mp z with z | z
              · rw [z, ho2] at hn'; cases hn'
              rcases List.mem_cons.mp z with z | z
              · rw [z, hM2.lst] at hn'; cases hn'
              rcases List.mem_append.mp z with z | z
              · obtain ⟨_, _, e⟩ := hM2.mem_a z
                rw [e] at hn'; cases hn'
              · obtain ⟨_, _, e⟩ := hM2.mem_b z
                rw [e] at hn'; cases hn'
            have nd := hR.nd
            simp only [List.nodup_cons, List.mem_cons, not_or] at nd nw ⊢
            exact ⟨⟨nd.1.1, fun z => nw.1 z.symm, nd.1.2.2⟩, ⟨fun z => nw.2.1 z.symm, nd.2.1.2⟩, nw.2.2, nd.2.2.2⟩
          · exact goOn_ok (p := (R.ms, R.group)) hR.ok it0
          · show (goOn R.lanes (R.ms, R.group) it0).2.length = (R.total + 1) % R.lanes
            unfold goOn
            rw [if_pos hfull, hz]; rfl
          · show ∀ it ∈ (goOn R.lanes (R.ms, R.group) it0).2, _
            unfold goOn
            rw [if_pos hfull]
            intro it hi; cases hi
          · exact kp2n wl' hn'
          · intro c o e n
            refine kp' c o (kp2 c o e ?_) ?_
            · simp only [List.mem_cons, List.mem_append, not_or] at n ⊢
              exact ⟨n.1, n.2.1, by simp⟩
            · simp only [List.mem_cons, List.mem_append, not_or] at n ⊢
              exact ⟨n.1, n.2.2⟩
        · have hz : ¬ (R.total + 1) % R.lanes = 0 := by
            have e : (((R.total + 1 : Nat) : Int)) % (R.lanes : Int) = (((R.total + 1) % R.lanes : Nat) : Int) := (Int.natCast_emod _ _).symm
            rw [e] at h; omega
          obtain ⟨hnf, hmod⟩ := mod_more hR.l0 hR.gl hz
          have eg : goOn R.lanes (R.ms, R.group) it0 = (R.ms, R.group ++ [it0]) := if_neg hnf
          refine k _ wl ⟨⟨dx, ho2⟩, ?_, ?_, hR.nd, hR.l0, hR.l16, ?_, ?_, ?_⟩ (.inl rfl) ?_
          · show ModelsAt T _ l (goOn R.lanes (R.ms, R.group) it0).1 as bs
            rw [eg]; exact hM2
          · show TupsL _ wl (itsV (symsOf (goOn R.lanes (R.ms, R.group) it0).2))
            rw [eg]; exact hW2
          · show MsOk (goOn R.lanes (R.ms, R.group) it0).1
            rw [eg]; exact hR.ok
          · show (goOn R.lanes (R.ms, R.group) it0).2.length = (R.total + 1) % R.lanes
            rw [eg, hmod]
            show (R.group ++ [it0]).length = _
            simp
          · show ∀ it ∈ (goOn R.lanes (R.ms, R.group) it0).2, ItOk (shp (goOn R.lanes (R.ms, R.group) it0).1) it
            rw [eg]; exact hgi2
          · intro c o e n
            refine kp2 c o e ?_
            simp only [List.mem_cons, List.mem_append, not_or] at n ⊢
            exact ⟨n.1, n.2.1, by simp⟩
    · have hs : isSym it = false := by cases it with
        | sym m s => exact absurd rfl hsy
        | plain b v => rfl
      have ho2 := ho1
      have hM2 := hM1
      have hW2 : TupsL H1 wl (itsV (symsOf (R.group ++ [it]))) := by
        have e : symsOf (R.group ++ [it]) = symsOf R.group := by rw [symsOf_app]; unfold symsOf; simp [hs]
        rw [e]
        exact ⟨rs, hw1, hts1⟩
      have kp2 : Kp [a, wl] H H1 := kp1.mono fun c hc => by simp at hc; simp [hc]
      have kp2n : ∀ c, H1 c = none → H c = none := fun c e => by
        cases q : H c with
        | none => rfl
        | some o =>
          by_cases z1 : c = a
          · rw [z1, ho2] at e; cases e
          · by_cases z2 : c = wl
            · rw [z2, hw1] at e; cases e
            · rw [kp2 _ _ q (by simp [z1, z2])] at e; cases e
      obtain ⟨it0, hit0⟩ : ∃ it0, it0 = it := ⟨_, rfl⟩
      rw [← hit0] at k hW2 hgi2
      · refine ⟨_, rfl, a, _, dx, _, _, rfl, ho2, T.cl_Row, T.n_Row_total, rf_total _ _ _ _, _, rfl, a, _, dx, _, _, rfl, ho2, T.cl_Row, T.n_Row_lanes, rf_lanes _ _ _ _, _, _, rfl, rfl, (by show (0 : Int) < (R.lanes : Int); have := hR.l0; omega), rfl, _, rfl, iteI (fun h => ?_) (fun h => ?_)⟩
        · have hz : (R.total + 1) % R.lanes = 0 := by
            have e : (((R.total + 1 : Nat) : Int)) % (R.lanes : Int) = (((R.total + 1) % R.lanes : Nat) : Int) := (Int.natCast_emod _ _).symm
            rw [e] at h; omega
          have hfull : R.group.length + 1 = R.lanes := mod_full hR.l0 hR.gl hz
          refine ⟨_, rfl, a, dx, _, rfl, ho2, rfl, a, l, wl, as, bs, R.lanes, R.total + 1, R.ms, R.group ++ [it0], rfl, ⟨dx, ho2⟩, hM2, hW2, hR.nd, hR.ok, hgi2, fun H' wl' ho' hM' hw' hn' kp' => ?_⟩
          refine k H' wl' ⟨ho', ?_, ⟨[], hw', ?_⟩, ?_, hR.l0, hR.l16, ?_, ?_, ?_⟩ (.inr ?_) ?_
          · show ModelsAt T H' l (goOn R.lanes (R.ms, R.group) it0).1 as bs
            unfold goOn
            rw [if_pos hfull]
            exact hM'
          · show TupsAt H' [] (itsV (symsOf (goOn R.lanes (R.ms, R.group) it0).2))
            unfold goOn
            rw [if_pos hfull]
            rfl
          · have nw : wl' ∉ (a :: l :: (as ++ bs)) := fun z => by
              rcases List.mem_cons.mp z with z | z
              · rw [z, ho2] at hn'; cases hn'
              rcases List.mem_cons.mp z with z | z
              · rw [z, hM2.lst] at hn'; cases hn'
              rcases List.mem_append.mp z with z | z
              · obtain ⟨_, _, e⟩ := hM2.mem_a z
                rw [e] at hn'; cases hn'
              · obtain ⟨_, _, e⟩ := hM2.mem_b z
                rw [e] at hn'; cases hn'
            have nd := hR.nd
            simp only [List.nodup_cons, List.mem_cons, not_or] at nd nw ⊢
            exact ⟨⟨nd.1.1, fun z => nw.1 z.symm, nd.1.2.2⟩, ⟨fun z => nw.2.1 z.symm, nd.2.1.2⟩, nw.2.2, nd.2.2.2⟩
          · exact goOn_ok (p := (R.ms, R.group)) hR.ok it0
          · show (goOn R.lanes (R.ms, R.group) it0).2.length = (R.total + 1) % R.lanes
            unfold goOn
            rw [if_pos hfull, hz]; rfl
          · show ∀ it ∈ (goOn R.lanes (R.ms, R.group) it0).2, _
            unfold goOn
            rw [if_pos hfull]
            intro it hi; cases hi
          · exact kp2n wl' hn'
          · intro c o e n
            refine kp' c o (kp2 c o e ?_) ?_
            · simp only [List.mem_cons, List.mem_append, not_or] at n ⊢
              exact ⟨n.1, n.2.1, by simp⟩
            · simp only [List.mem_cons, List.mem_append, not_or] at n ⊢
              exact ⟨n.1, n.2.2⟩
        · have hz : ¬ (R.total + 1) % R.lanes = 0 := by
            have e : (((R.total + 1 : Nat) : Int)) % (R.lanes : Int) = (((R.total + 1) % R.lanes : Nat) : Int) := (Int.natCast_emod _ _).symm
            rw [e] at h; omega
          obtain ⟨hnf, hmod⟩ := mod_more hR.l0 hR.gl hz
          have eg : goOn R.lanes (R.ms, R.group) it0 = (R.ms, R.group ++ [it0]) := if_neg hnf
          refine k _ wl ⟨⟨dx, ho2⟩, ?_, ?_, hR.nd, hR.l0, hR.l16, ?_, ?_, ?_⟩ (.inl rfl) ?_
          · show ModelsAt T _ l (goOn R.lanes (R.ms, R.group) it0).1 as bs
            rw [eg]; exact hM2
          · show TupsL _ wl (itsV (symsOf (goOn R.lanes (R.ms, R.group) it0).2))
            rw [eg]; exact hW2
          · show MsOk (goOn R.lanes (R.ms, R.group) it0).1
            rw [eg]; exact hR.ok
          · show (goOn R.lanes (R.ms, R.group) it0).2.length = (R.total + 1) % R.lanes
            rw [eg, hmod]
            show (R.group ++ [it0]).length = _
            simp
          · show ∀ it ∈ (goOn R.lanes (R.ms, R.group) it0).2, ItOk (shp (goOn R.lanes (R.ms, R.group) it0).1) it
            rw [eg]; exact hgi2
          · intro c o e n
            refine kp2 c o e ?_
            simp only [List.mem_cons, List.mem_append, not_or] at n ⊢
            exact ⟨n.1, n.2.1, by simp⟩
end FB
end
section
namespace FB
open PySem PySem.Spec PyProof.Rows L2 FM
open LwBits (Item Models)
variable {P : Program} {w : World} {K : PySem.W.Frag} {mg : Str → Option Value} {base : Heap}
theorem sql_kp {H H' : Hp} {q : Addr} {xs : List V} {S : List Addr} (h : SqL K H q xs) (kp : Kp S H H') (n : ∀ u, H q = some u → (u = .lst xs ∨ ∃ o, u = .frz o (.lst xs)) → q ∉ S) : SqL K H' q xs := by
  rcases h with (h | ⟨o, h⟩) | h
  · exact .inl (.inl (kp _ _ h (n _ h (.inl rfl))))
  · exact .inl (.inr ⟨o, kp _ _ h (n _ h (.inr ⟨o, rfl⟩))⟩)
  · exact .inr h
theorem TupsL.kp {H H' : Hp} {p : Addr} {vss : List (List V)} {S : List Addr} (h : TupsL H p vss) (kp : Kp S H H') (np : p ∉ S) (nt : ∀ x ∈ S, ∀ vs, H x ≠ some (.tup vs)) : TupsL H' p vss := by
  obtain ⟨rs, h1, h2⟩ := h
  exact ⟨rs, kp _ _ h1 np, h2.step fun r vs e => kp _ _ e fun z => nt r z vs e⟩
theorem RowAt.kp {T : Txt K mg} {H H' : Hp} {a l wl : Addr} {as bs S : List Addr} {R : RowS} (h : RowAt T H a l wl as bs R) (kp : Kp S H H') (d : ∀ x ∈ (a :: l :: wl :: (as ++ bs)), x ∉ S) (nt : ∀ x ∈ S, ∀ vs, H x ≠ some (.tup vs)) : RowAt T H' a l wl as bs R := by
  obtain ⟨dx, ho⟩ := h.ob
  exact ⟨⟨dx, kp _ _ ho (d a (by simp))⟩, h.md.kp kp (d l (by simp)) (fun c hc => d c (by simp [hc])) (fun c hc => d c (by simp [hc])), h.wt.kp kp (d wl (by simp)) nt, h.nd, h.l0, h.l16, h.ok, h.gl, h.gi⟩
theorem RowAt.same {T : Txt K mg} {H H' : Hp} {a l wl : Addr} {as bs : List Addr} {R : RowS} (h : RowAt T H a l wl as bs R) (s : Same H H') : RowAt T H' a l wl as bs R :=
  h.kp (S := []) (fun c o e _ => s c o e) (fun _ _ z => by cases z) (fun _ z => by cases z)
theorem RowAt.tr {T : Txt K mg} {H : Hp} {a l wl : Addr} {as bs : List Addr} {R : RowS} (h : RowAt T H a l wl as bs R) : ∀ x ∈ (a :: l :: wl :: (as ++ bs)), H x ≠ none ∧ ∀ vs, H x ≠ some (.tup vs) := by
  obtain ⟨dx, ho⟩ := h.ob
  obtain ⟨rs, hw, _⟩ := h.wt
  intro x hx
  rcases List.mem_cons.mp hx with z | hx
  · rw [z, ho]; exact ⟨by simp, fun vs e => by cases e⟩
  rcases List.mem_cons.mp hx with z | hx
  · rw [z, h.md.lst]; exact ⟨by simp, fun vs e => by cases e⟩
  rcases List.mem_cons.mp hx with z | hx
  · rw [z, hw]; exact ⟨by simp, fun vs e => by cases e⟩
  rcases List.mem_append.mp hx with z | z
  · obtain ⟨_, _, e⟩ := h.md.mem_a z
    rw [e]; exact ⟨by simp, fun vs e => by cases e⟩
  · obtain ⟨_, _, e⟩ := h.md.mem_b z
    rw [e]; exact ⟨by simp, fun vs e => by cases e⟩
def sp_Row_init (T : Txt K mg) : Sp := fun vs H Q _ => ∃ (p dx q : Addr) (n : Nat) (ns : List Nat) (ms : Models), vs = [.ref p, iV n, .ref q] ∧ H p = some (.ins T.C_Row dx []) ∧ SqL K H q (nV ns) ∧ ns.length ≤ 32 ∧ Coder.modelsIn ns = some ms ∧ 0 < n ∧ n ≤ 16 ∧
  ∀ (H' : Hp) (l wl : Addr) (as bs : List Addr), RowAt T H' p l wl as bs ⟨n, 0, ms, []⟩ → (∀ x ∈ l :: wl :: (as ++ bs), H x = none) → Kp [p] H H' → Q .non H'
theorem ok_Row___init__ (T : Txt K mg) : FnOk P w K mg base CX0 4 T.f_Row___init__ T.d_Row___init__ ["self", "lanes", "numbers"] (sp_Row_init T) := by
  refine T.F_Row___init__.ok sc_Row___init__ (fun vs H Q E h => ?_) (fun cdv A outer s H vs Q E hr h => ?_)
  · obtain ⟨p, dx, q, n, ns, ms, rfl, _⟩ := h; rfl
  · obtain ⟨p, dx, q, n, ns, ms, rfl, hp, hq, hl, hms, h0, h16, k⟩ := h
    refine ⟨_, (pss_cons (ps_fld (pv 0) (pv 1) rfl) (pss_cons (ps_fld (pv 0) (pe_call (ok_new_models T) (hr.mono (by decide)) rfl T.m_new_models T.F_new_models.kp T.b_new_models .nil pass0 (pa_cons (pv 2) pa_nil)) rfl) (pss_cons (ps_fld (pv 0) pe_int rfl) (pss_one (ps_fld (pv 0) (pe_lst pa_nil) rfl))))), ?_⟩
    refine ⟨_, rfl, _, rfl, p, _, dx, _, rfl, hp, T.cl_Row, T.n_Row_lanes, (by show 0 < 1000; decide), ?_⟩
    have kp1 : Kp [p] H (upd H p (.ins T.C_Row dx [("lanes", iV n)])) := Kp.upd
    have hq1 : SqL K (upd H p (.ins T.C_Row dx [("lanes", iV n)])) q (nV ns) := sql_kp hq kp1 fun u e hu z => by
      have z : q = p := by simpa using z
      rw [z, hp] at e
      cases e
      rcases hu with hu | ⟨o, hu⟩ <;> cases hu
    refine ⟨_, rfl, q, ns, ms, rfl, hq1, hl, hms, fun H2 l as bs s2 hln hM fa fb => ?_⟩
    have hp2 := s2 p _ upd_same
    refine ⟨_, rfl, p, _, dx, _, rfl, hp2, T.cl_Row, T.n_Row_models, (by show 1 < 1000; decide), ?_⟩
    refine ⟨_, rfl, p, _, dx, _, rfl, upd_same, T.cl_Row, T.n_Row_total, (by show 2 < 1000; decide), ?_⟩
    rw [upd_upd]
    refine ⟨Nat.zero_le _, fun D hD => ?_⟩
    have nDp : D ≠ p := fun z => by rw [z, upd_same] at hD; cases hD
    have hD2 : H2 D = none := by rw [upd_ne nDp] at hD; exact hD
    refine ⟨_, rfl, p, _, dx, _, rfl, (by rw [upd_ne (Ne.symm nDp), upd_same]), T.cl_Row, T.n_Row_waiting, (by show 3 < 1000; decide), ?_⟩
    have fr : ∀ x, (upd H p (.ins T.C_Row dx [("lanes", iV n)])) x = none → H x = none := fun x e => by
      rw [upd_ne (fun z => by rw [z, upd_same] at e; cases e)] at e; exact e
    have kpf : Kp [p] H2 (upd (upd (upd H2 p (.ins T.C_Row dx [("lanes", iV n), ("models", .ref l), ("total", iV 0)])) D (.lst [])) p (.ins T.C_Row dx (rf n l 0 D))) := fun c o e nn => by
      rw [upd_ne (by simpa using nn), upd_ne (ne_of_none e hD2), upd_ne (by simpa using nn)]; exact e
    have pl : p ≠ l := fun z => by rw [← z, upd_same] at hln; cases hln
    have pa : ∀ a ∈ as, a ≠ p := fun a ha z => by have := fa a ha; rw [z, upd_same] at this; cases this
    have pb : ∀ a ∈ bs, a ≠ p := fun a ha z => by have := fb a ha; rw [z, upd_same] at this; cases this
    have hM' := hM.kp kpf (by simpa using fun z => pl z.symm) (fun c hc => by simpa using pa c hc) (fun c hc => by simpa using pb c hc)
    have okm := modelsIn_ok hms
    have ndm := hM.nd okm
    refine k _ l D as bs ⟨⟨dx, upd_same⟩, hM', ⟨[], by rw [upd_ne nDp, upd_same]; rfl, rfl⟩, ?_, h0, h16, okm, ?_, ?_⟩ ?_ ?_
    · have nDm : D ∉ l :: (as ++ bs) := fun z => by
        rcases List.mem_cons.mp z with z | z
        · rw [z, hM.lst] at hD2; cases hD2
        rcases List.mem_append.mp z with z | z
        · obtain ⟨_, _, e⟩ := hM.mem_a z
          rw [e] at hD2; cases hD2
        · obtain ⟨_, _, e⟩ := hM.mem_b z
          rw [e] at hD2; cases hD2
      simp only [List.nodup_cons, List.mem_cons, List.mem_append, not_or] at ndm nDm ⊢
      exact ⟨⟨pl, fun z => nDp z.symm, fun z => pa p z rfl, fun z => pb p z rfl⟩, ⟨fun z => nDm.1 z.symm, ndm.1⟩, nDm.2, ndm.2⟩
    · show 0 = 0 % n; simp
    · intro it hi; cases hi
    · intro x hx
      rcases List.mem_cons.mp hx with z | hx
      · rw [z]; exact fr _ hln
      rcases List.mem_cons.mp hx with z | hx
      · rw [z]; exact fr _ (s2.free hD2)
      rcases List.mem_append.mp hx with z | z
      · exact fr _ (fa x z)
      · exact fr _ (fb x z)
    · intro c o e nn
      exact kpf c o (s2 _ _ (kp1 c o e nn)) nn
def wf (a sl : Addr) : List (Str × V) := [("row", .ref a), ("shares", .ref sl)]
theorem wf_row (a sl : Addr) : (wf a sl).lookup ("row" : Str) = some (.ref a) := rfl
theorem wf_shares (a sl : Addr) : (wf a sl).lookup ("shares" : Str) = some (.ref sl) := rfl
def putS (n : Nat) (ms : Models) (its : List Item) : RowS := ⟨n, its.length, Coder.modelsNow n ms its, its.drop (its.length / n * n)⟩
structure WriterAt (T : Txt K mg) (H : Hp) (p a l wl sl : Addr) (as bs : List Addr) (n : Nat) (ms : Models) (its : List Item) : Prop where
  ob : ∃ dx, H p = some (.ins T.C_Writer dx (wf a sl))
  row : RowAt T H a l wl as bs (putS n ms its)
  sh : TupsL H sl (shsV (LwBits.shares n ms its))
  nd : (p :: sl :: a :: l :: wl :: (as ++ bs)).Nodup
  ok : MsOk ms
  io : ∀ it ∈ its, ItOk (shp ms) it
  len : its.length ≤ 1000
theorem putS_go {n : Nat} (h0 : 0 < n) (ms : Models) (its : List Item) (it : Item) : (putS n ms its).go it = putS n ms (its ++ [it]) := by
  have e1 := goAll_now h0 ms its.length its rfl
  have e2 := goAll_now h0 ms (its ++ [it]).length (its ++ [it]) rfl
  rw [goAll_snoc, e1] at e2
  unfold RowS.go putS
  dsimp only
  rw [e2]
  simp
def sp_Writer_init (T : Txt K mg) : Sp := fun vs H Q _ => ∃ (p dx q : Addr) (n : Nat) (ns : List Nat) (ms : Models), vs = [.ref p, iV n, .ref q] ∧ H p = some (.ins T.C_Writer dx []) ∧ SqL K H q (nV ns) ∧ ns.length ≤ 32 ∧ Coder.modelsIn ns = some ms ∧ 0 < n ∧ n ≤ 16 ∧
  ∀ (H' : Hp) (a l wl sl : Addr) (as bs : List Addr), WriterAt T H' p a l wl sl as bs n ms [] → (∀ x ∈ sl :: a :: l :: wl :: (as ++ bs), H x = none) → Kp [p] H H' → Q .non H'
theorem ok_Writer___init__ (T : Txt K mg) : FnOk P w K mg base CX0 6 T.f_Writer___init__ T.d_Writer___init__ ["self", "lanes", "numbers"] (sp_Writer_init T) := by
  refine T.F_Writer___init__.ok sc_Writer___init__ (fun vs H Q E h => ?_) (fun cdv A outer s H vs Q E hr h => ?_)
  · obtain ⟨p, dx, q, n, ns, ms, rfl, _⟩ := h; rfl
  · obtain ⟨p, dx, q, n, ns, ms, rfl, hp, hq, hl, hms, h0, h16, k⟩ := h
    refine ⟨_, (pss_cons (ps_fld (pv 0) (pe_make T.mk_Row (ok_Row___init__ T) (hr.mono (by decide)) rfl T.mc_Row T.b_Row___init__ .nil pass0 (pa_cons (pv 1) (pa_cons (pv 2) pa_nil))) rfl) (pss_one (ps_fld (pv 0) (pe_lst pa_nil) rfl))), ?_⟩
    refine ⟨_, rfl, _, rfl, fun x dr hx hdr hne => ⟨x, dr, q, n, ns, ms, rfl, upd_same, ?_, hl, hms, h0, h16, fun H2 l wl as bs hR fr kp => ⟨rfl, ?_⟩⟩⟩
    · refine sql_kp hq (S := [x, dr]) (fun c o e nn => ?_) fun u e _ z => ?_
      · have nn : c ≠ x ∧ c ≠ dr := by simpa using nn
        rw [upd_ne nn.1, upd_ne nn.2]; exact e
      · have z : q = x ∨ q = dr := by simpa using z
        rcases z with z | z
        · rw [z, hx] at e; cases e
        · rw [z, hdr] at e; cases e
    have s2 : Same H H2 := Same.made hx hdr fun b o e nn => kp b o e (by simpa using nn)
    have fr2 : ∀ y ∈ x :: l :: wl :: (as ++ bs), H y = none := fun y hy => by
      rcases List.mem_cons.mp hy with z | hy
      · rw [z]; exact hx
      · have := fr y hy
        rw [upd_ne (fun z => by rw [z, upd_same] at this; cases this)] at this
        rw [upd_ne (fun z => by rw [z, upd_same] at this; cases this)] at this
        exact this
    have hp2 := s2 _ _ hp
    refine ⟨_, rfl, p, _, dx, _, rfl, hp2, T.cl_Writer, T.n_Writer_row, (by show 0 < 1000; decide), ?_⟩
    refine ⟨Nat.zero_le _, fun D hD => ?_⟩
    have nDp : D ≠ p := fun z => by rw [z, upd_same] at hD; cases hD
    have hD2 : H2 D = none := by rw [upd_ne nDp] at hD; exact hD
    refine ⟨_, rfl, p, _, dx, _, rfl, (by rw [upd_ne (Ne.symm nDp), upd_same]), T.cl_Writer, T.n_Writer_shares, (by show 1 < 1000; decide), ?_⟩
    have kpf : Kp [p] H2 (upd (upd (upd H2 p (.ins T.C_Writer dx [("row", .ref x)])) D (.lst [])) p (.ins T.C_Writer dx (wf x D))) := fun c o e nn => by
      rw [upd_ne (by simpa using nn), upd_ne (ne_of_none e hD2), upd_ne (by simpa using nn)]; exact e
    have pf : ∀ y ∈ x :: l :: wl :: (as ++ bs), y ≠ p := fun y hy z => by have := fr2 y hy; rw [z, hp] at this; cases this
    have okm := modelsIn_ok hms
    have hR' := hR.kp kpf (fun y hy => by simpa using pf y hy) (fun y hy vs e => by
      have hy : y = p := by simpa using hy
      rw [hy, hp2] at e; cases e)
    have e0 : putS n ms [] = ⟨n, 0, ms, []⟩ := by
      unfold putS Coder.modelsNow
      simp [LwBits.sawAll]
    refine k _ x l wl D as bs ⟨⟨dx, upd_same⟩, by rw [e0]; exact hR', ⟨[], by rw [upd_ne nDp, upd_same]; rfl, rfl⟩, ?_, okm, (fun it hi => by cases hi), by simp⟩ ?_ ?_
    · refine List.nodup_cons.mpr ⟨fun z => ?_, List.nodup_cons.mpr ⟨fun z => ?_, hR.nd⟩⟩
      · rcases List.mem_cons.mp z with z | z
        · exact nDp z.symm
        · exact pf p z rfl
      · exact (hR.tr D z).1 hD2
    · intro y hy
      rcases List.mem_cons.mp hy with z | hy
      · rw [z]; exact s2.free hD2
      · exact fr2 y hy
    · intro c o e nn
      exact kpf c o (s2 _ _ e) nn
def sp_Writer_write (T : Txt K mg) : Sp := fun vs H Q _ => ∃ (p a l wl sl q : Addr) (as bs : List Addr) (n : Nat) (ms : Models) (its new : List Item), vs = [.ref p, .ref q] ∧ WriterAt T H p a l wl sl as bs n ms its ∧ TupsL H q (itsV new) ∧ q ∉ (p :: sl :: a :: l :: wl :: (as ++ bs)) ∧ (∀ it ∈ new, ItOk (shp ms) it) ∧ its.length + new.length ≤ 1000 ∧
  ∀ (H' : Hp) (wl' : Addr), WriterAt T H' p a l wl' sl as bs n ms (its ++ new) → (wl' = wl ∨ H wl' = none) → Kp (sl :: a :: wl :: (as ++ bs)) H H' → Q .non H'
theorem ok_Writer_write (T : Txt K mg) : FnOk P w K mg base CX0 5 T.f_Writer_write T.d_Writer_write ["self", "pieces"] (sp_Writer_write T) := by
  refine T.F_Writer_write.ok sc_Writer_write (fun vs H Q E h => ?_) (fun cdv A outer s H vs Q E hr h => ?_)
  · obtain ⟨p, a, l, wl, sl, q, as, bs, n, ms, its, new, rfl, _⟩ := h; rfl
  · obtain ⟨p, a, l, wl, sl, q, as, bs, n, ms, its, new, rfl, hW, ⟨rs, hq, ht⟩, nq, hnew, hlen, k⟩ := h
    refine ⟨_, (pss_one (ps_for PassesOwn.never rfl (pi_list (pv 1)) (pg_name (i := 2) sc_Writer_write.nd rfl (Or.inl rfl)) (pss_cons (ps_expr (pe_bm PySem.F.plainAttrs_list PySem.F.slot_list_append PySem.F.type_list_append mt_append (pe_fld (pv 0) rfl) (pa_cons (pe_meth (pe_fld (pv 0) rfl) T.cl_Row T.me_Row_piece_share (ok_Row_piece_share T) (hr.mono (by decide)) T.b_Row_piece_share .nil pass0 (pa_cons (pv 2) pa_nil)) pa_nil))) (pss_one (ps_expr (pe_meth (pe_fld (pv 0) rfl) T.cl_Row T.me_Row_go_by (ok_Row_go_by T) (hr.mono (by decide)) T.b_Row_go_by .nil pass0 (pa_cons (pv 2) pa_nil))))))), ?_⟩
    have hrl : rs.length = new.length := by rw [ht.len, List.length_map]
    have h0 : 0 < n := hW.row.l0
    have nq' : q ∉ sl :: a :: wl :: (as ++ bs) := fun z => nq (by
      rcases List.mem_cons.mp z with z | z
      · simp [z]
      rcases List.mem_cons.mp z with z | z
      · simp [z]
      rcases List.mem_cons.mp z with z | z
      · simp [z]
      · simp only [List.mem_cons]; exact .inr (.inr (.inr (.inr (.inr z)))))
    have tup : ∀ r vs, H r = some (.tup vs) → r ∉ sl :: a :: wl :: (as ++ bs) := fun r vs e z => by
      obtain ⟨ss, hs, _⟩ := hW.sh
      rcases List.mem_cons.mp z with z | z
      · rw [z, hs] at e; cases e
      · exact (hW.row.tr r (by
          rcases List.mem_cons.mp z with z | z
          · simp [z]
          rcases List.mem_cons.mp z with z | z
          · simp [z]
          · simp only [List.mem_cons]; exact .inr (.inr (.inr z)))).2 vs e
    refine ⟨_, rfl, q, rfl, ⟨_, SqL.of hq⟩, for_list (K := K) (a := q) (xs := rs.map V.ref) (fun i σ H' => ∃ v2 wl', σ = [some (.ref p), some (.ref q), v2] ∧ WriterAt T H' p a l wl' sl as bs n ms (its ++ new.take i) ∧ (wl' = wl ∨ H wl' = none) ∧ Kp (sl :: a :: wl :: (as ++ bs)) H H')
      ⟨_, wl, rfl, by simpa using hW, .inl rfl, Kp.refl _ _⟩ (fun i σ H' _ ⟨_, _, _, _, _, kp⟩ => SqL.of (kp _ _ hq nq')) ?_ ?_⟩
    · rintro i y σ H1 hi ⟨v2, wl', rfl, hW1, hwl, kp1⟩
      have hil : i < rs.length := by
        have := (List.getElem?_eq_some_iff.mp hi).1
        simpa using this
      obtain ⟨it, eit⟩ : ∃ it, new[i]? = some it := ⟨_, List.getElem?_eq_getElem (by omega)⟩
      obtain ⟨r, er, hr1⟩ := ht.get (j := i) (vs := itV it) (by rw [List.getElem?_map, eit]; rfl)
      rw [List.getElem?_map, er] at hi
      cases hi
      have hr2 := kp1 _ _ hr1 (tup r _ hr1)
      have hio := hnew it (List.mem_of_getElem? eit)
      obtain ⟨dx, ho⟩ := hW1.ob
      obtain ⟨dr, hor⟩ := hW1.row.ob
      obtain ⟨ss, hs, hst⟩ := hW1.sh
      have esh : shp (putS n ms (its ++ new.take i)).ms = shp ms := modelsNow_shp _ _ _
      have hio' : ItOk (shp (putS n ms (its ++ new.take i)).ms) it := by rw [esh]; exact hio
      refine ⟨_, rfl, p, _, dx, _, _, rfl, ho, T.cl_Writer, T.n_Writer_shares, wf_shares _ _, .inl ⟨rfl, _, SqL.of hs⟩, _, rfl, p, _, dx, _, _, rfl, ho, T.cl_Writer, T.n_Writer_row, wf_row _ _, a, dr, _, rfl, hor, rfl, _, rfl,
        a, l, wl', r, as, bs, _, it, rfl, hW1.row, hr2, (ItOk.sh hio'), fun H2 t s2 htn htt => ?_⟩
      have hs2 := s2 _ _ hs
      have lsh : (LwBits.shares n ms (its ++ new.take i)).length = its.length + i := by
        rw [shares_len h0 ms _ _ rfl, List.length_append, List.length_take]; omega
      refine ⟨sl, _, _, rfl, rfl, hs2, ?_, ?_⟩
      · rw [List.length_map, hst.len, List.length_map, lsh]
        exact Nat.lt_of_lt_of_le (show _ < 1001 by omega) (small20 (by omega))
      have kp3 : Kp [sl] H2 (upd H2 sl (.lst (ss.map V.ref ++ [V.ref t]))) := Kp.upd
      have nd := hW1.nd
      have nsl : ∀ x ∈ (a :: l :: wl' :: (as ++ bs)), x ≠ sl := fun x hx z => (List.nodup_cons.mp (List.nodup_cons.mp nd).2).1 (z ▸ hx)
      have npx : p ∉ sl :: a :: l :: wl' :: (as ++ bs) := (List.nodup_cons.mp nd).1
      have hR3 := (hW1.row.same s2).kp kp3 (fun x hx => by simpa using nsl x hx) (fun x hx vs e => by
        have hx : x = sl := by simpa using hx
        rw [hx, hs2] at e; cases e)
      have nps : p ≠ sl := fun z => npx (by simp [z])
      have ho3 := kp3 _ _ (s2 _ _ ho) (by simpa using nps)
      obtain ⟨dr3, hor3⟩ := hR3.ob
      have nrs : r ≠ sl := ne_of (s2 _ _ hr2) hs2 (by intro z; cases z)
      refine ⟨_, rfl, p, _, dx, _, _, rfl, ho3, T.cl_Writer, T.n_Writer_row, wf_row _ _, a, dr3, _, rfl, hor3, rfl, _, rfl, a, l, wl', r, as, bs, _, it, rfl, hR3, kp3 _ _ (s2 _ _ hr2) (by simpa using nrs), hio', fun H4 wl4 hR4 hwl4 kp4 => ?_⟩
      have hs3 : (upd H2 sl (.lst (ss.map V.ref ++ [V.ref t]))) sl = some (.lst ((ss ++ [t]).map V.ref)) := by rw [upd_same, List.map_append]; rfl
      have n4 : sl ∉ a :: wl' :: (as ++ bs) := fun z => nsl sl (by
        rcases List.mem_cons.mp z with z | z
        · simp [z]
        rcases List.mem_cons.mp z with z | z
        · simp [z]
        · simp only [List.mem_cons]; exact .inr (.inr (.inr z))) rfl
      have n5 : p ∉ a :: wl' :: (as ++ bs) := fun z => npx (by
        rcases List.mem_cons.mp z with z | z
        · simp [z]
        rcases List.mem_cons.mp z with z | z
        · simp [z]
        · simp only [List.mem_cons]; exact .inr (.inr (.inr (.inr z))))
      have tup3 : ∀ c vs, (upd H2 sl (.lst (ss.map V.ref ++ [V.ref t]))) c = some (.tup vs) → c ∉ a :: wl' :: (as ++ bs) := fun c vs e z => by
        refine (hR3.tr c ?_).2 vs e
        rcases List.mem_cons.mp z with z | z
        · simp [z]
        rcases List.mem_cons.mp z with z | z
        · simp [z]
        · simp only [List.mem_cons]; exact .inr (.inr (.inr z))
      have esnoc : its ++ new.take (i + 1) = (its ++ new.take i) ++ [it] := by rw [take_snoc eit, List.append_assoc]
      have back : ∀ c, (upd H2 sl (.lst (ss.map V.ref ++ [V.ref t]))) c = none → H1 c = none := fun c e => s2.free (by
        rw [upd_ne (fun z => by rw [z, upd_same] at e; cases e)] at e; exact e)
      refine ⟨_, wl4, rfl, ⟨⟨dx, kp4 _ _ ho3 n5⟩, ?_, ⟨ss ++ [t], kp4 _ _ hs3 n4, ?_⟩, ?_, hW.ok, ?_, ?_⟩, ?_, ?_⟩
      · rw [esnoc, ← putS_go h0]; exact hR4
      · rw [esnoc, shares_snoc h0, shsV, List.map_append]
        have h1 : TupsAt (upd H2 sl (.lst (ss.map V.ref ++ [V.ref t]))) (ss ++ [t]) (shsV (LwBits.shares n ms (its ++ new.take i)) ++ [shV (it.share (Coder.modelsNow n ms (its ++ new.take i)))]) :=
          ((hst.same s2).step fun c vs e => kp3 _ _ e (fun z => by
            have z : c = sl := by simpa using z
            rw [z, hs2] at e; cases e)).app (.one (kp3 _ _ htt (by
            simpa using fun z : t = sl => by rw [z, hs] at htn; cases htn)))
        exact h1.step fun c vs e => kp4 _ _ e (tup3 c vs e)
      · rcases hwl4 with z | z
        · rw [z]; exact nd
        · have z1 := back _ z
          have nw4 : ∀ x ∈ (p :: sl :: a :: l :: wl' :: (as ++ bs)), x ≠ wl4 := fun x hx zz => by
            rw [← zz] at z1
            rcases List.mem_cons.mp hx with q1 | hx
            · rw [q1, ho] at z1; cases z1
            rcases List.mem_cons.mp hx with q1 | hx
            · rw [q1, hs] at z1; cases z1
            · exact (hW1.row.tr x hx).1 z1
          have nd4 := hR4.nd
          refine List.nodup_cons.mpr ⟨fun zz => ?_, List.nodup_cons.mpr ⟨fun zz => ?_, nd4⟩⟩
          · rcases List.mem_cons.mp zz with q1 | zz
            · exact nps q1
            rcases List.mem_cons.mp zz with q1 | zz
            · exact npx (by simp [q1])
            rcases List.mem_cons.mp zz with q1 | zz
            · exact npx (by simp [q1])
            rcases List.mem_cons.mp zz with q1 | zz
            · exact nw4 p (by simp) q1
            · exact npx (by simp only [List.mem_cons]; exact .inr (.inr (.inr (.inr zz))))
          · rcases List.mem_cons.mp zz with q1 | zz
            · exact nsl sl (by simp [q1]) rfl
            rcases List.mem_cons.mp zz with q1 | zz
            · exact nsl sl (by simp [q1]) rfl
            rcases List.mem_cons.mp zz with q1 | zz
            · exact nw4 sl (by simp) q1
            · exact nsl sl (by simp only [List.mem_cons]; exact .inr (.inr (.inr zz))) rfl
      · intro x hx
        rcases List.mem_append.mp hx with z | z
        · exact hW.io x z
        · exact hnew x (List.mem_of_mem_take z)
      · rw [List.length_append, List.length_take]; omega
      · have keep : ∀ c, H1 c = none → H c = none ∨ c = wl := fun c e => by
          cases q1 : H c with
          | none => exact .inl rfl
          | some o =>
            by_cases z : c ∈ sl :: a :: wl :: (as ++ bs)
            · rcases List.mem_cons.mp z with z | z
              · rw [z, hs] at e; cases e
              rcases List.mem_cons.mp z with z | z
              · rw [z, hor] at e; cases e
              rcases List.mem_cons.mp z with z | z
              · exact .inr z
              · exact absurd e (hW1.row.tr c (by simp only [List.mem_cons]; exact .inr (.inr (.inr z)))).1
            · rw [kp1 _ _ q1 z] at e; cases e
        rcases hwl4 with z | z
        · rw [z]; exact hwl
        · rcases keep _ (back _ z) with z | z
          · exact .inr z
          · exact .inl z
      · intro c o e nn
        have nn' := nn
        simp only [List.mem_cons, not_or] at nn
        have hwl'c : c ≠ wl' := by
          rcases hwl with z | z
          · rw [z]; exact nn.2.2.1
          · exact fun zz => by rw [zz, z] at e; cases e
        refine kp4 _ _ (kp3 _ _ (s2 _ _ (kp1 _ _ e nn')) (by simpa using nn.1)) ?_
        simp only [List.mem_cons, not_or]
        exact ⟨nn.2.1, hwl'c, nn.2.2.2⟩
    · rintro σ H1 ⟨v2, wl', rfl, hW1, hwl, kp1⟩
      rw [List.length_map, hrl, List.take_length] at hW1
      exact k H1 wl' hW1 hwl kp1
def codeN (n : Nat) (ms : Models) (its : List Item) : List Nat := bytesOf (LwBits.pushAll n 0 (LwBits.shares n ms its)).1 (LwBits.pushAll n 0 (LwBits.shares n ms its)).2
def sp_Writer_row_coded (T : Txt K mg) : Sp := fun vs H Q _ => ∃ (p a l wl sl : Addr) (as bs : List Addr) (n : Nat) (ms : Models) (its : List Item), vs = [.ref p] ∧ WriterAt T H p a l wl sl as bs n ms its ∧ newInts (codeN n ms its) H Q
theorem ok_Writer_row_coded (T : Txt K mg) : FnOk P w K mg base CX0 4 T.f_Writer_row_coded T.d_Writer_row_coded ["self"] (sp_Writer_row_coded T) := by
  refine T.F_Writer_row_coded.ok sc_Writer_row_coded (fun vs H Q E h => ?_) (fun cdv A outer s H vs Q E hr h => ?_)
  · obtain ⟨p, a, l, wl, sl, as, bs, n, ms, its, rfl, _⟩ := h; rfl
  · obtain ⟨p, a, l, wl, sl, as, bs, n, ms, its, rfl, hW, k⟩ := h
    refine ⟨_, (pss_one (ps_ret (pe_call (ok_coded T) (hr.mono (by decide)) rfl T.m_coded T.F_coded.kp T.b_coded .nil pass0 (pa_cons (pe_fld (pv 0) rfl) (pa_cons (pe_fld (pe_fld (pv 0) rfl) rfl) pa_nil))))), ?_⟩
    obtain ⟨dx, ho⟩ := hW.ob
    obtain ⟨dr, hor⟩ := hW.row.ob
    have h0 : 0 < n := hW.row.l0
    exact ⟨_, rfl, p, _, dx, _, _, rfl, ho, T.cl_Writer, T.n_Writer_shares, wf_shares _ _, _, rfl, p, _, dx, _, _, rfl, ho, T.cl_Writer, T.n_Writer_row, wf_row _ _, a, _, dr, _, _, rfl, hor, T.cl_Row, T.n_Row_lanes, rf_lanes _ _ _ _,
      sl, n, _, rfl, hW.sh, h0, hW.row.l16, by rw [shares_len h0 ms _ _ rfl]; exact hW.len, shares_ok h0 hW.ok _ _ rfl hW.io, k⟩
end FB
end
section
namespace FB
open PySem PySem.Spec PyProof.Rows L2 FM
open LwBits (Item Models)
variable {P : Program} {w : World} {K : PySem.W.Frag} {mg : Str → Option Value} {base : Heap}
def sp_Model_symbol_at (T : Txt K mg) : Sp := fun vs H Q _ => ∃ (a lb : Addr) (m : SModel) (k : Nat), vs = [.ref a, iV k] ∧ ModelAt T H a lb m ∧ MOk m ∧ Q (iV (m.at_ k)) H
theorem ok_Model_symbol_at (T : Txt K mg) : FnOk P w K mg base CX0 1 T.f_Model_symbol_at T.d_Model_symbol_at ["self", "place"] (sp_Model_symbol_at T) := by
  refine T.F_Model_symbol_at.ok sc_Model_symbol_at (fun vs H Q E h => ?_) (fun cdv A outer s H vs Q E hr h => ?_)
  · obtain ⟨a, lb, m, c, rfl, _⟩ := h; rfl
  · obtain ⟨a, lb, m, c, rfl, ⟨⟨dx, ho⟩, hb⟩, hm, k⟩ := h
    refine ⟨_, (pss_cons (ps_set (i := 2) sc_Model_symbol_at.nd rfl (Or.inl rfl) pe_int) (pss_cons (ps_set (i := 3) sc_Model_symbol_at.nd rfl (Or.inl rfl) (pe_fld (pv 0) rfl)) (pss_cons (ps_while PassesOwn.never (pt_cmpR op_gt (pe_op op_sub (pv 3) (pv 2)) pe_int (nomark _)) (pss_cons (ps_set (i := 4) sc_Model_symbol_at.nd rfl (Or.inl rfl) (pe_op op_fdiv (pe_op op_add (pv 2) (pv 3)) pe_int)) (pss_one (ps_if (pt_cmpR op_le (pe_ix ix_list (pe_fld (pv 0) rfl) (pv 4) (fun _ _ => rfl)) (pv 1) (nomark _)) (pss_one (ps_set (i := 2) sc_Model_symbol_at.nd rfl (Or.inl rfl) (pv 4))) (pss_one (ps_set (i := 3) sc_Model_symbol_at.nd rfl (Or.inl rfl) (pv 4))))))) (pss_one (ps_ret (pv 2)))))), ?_⟩
    have n2 := hm.n2
    refine ⟨_, rfl, a, _, dx, _, _, rfl, ho, T.cl_Model, T.n_Model_symbols, mf_symbols _ _, ?_⟩
    refine while_by (fun σ H' => ∃ (x y : Nat) (v4 : Option V), σ = [some (.ref a), some (iV c), some (iV x), some (iV y), v4] ∧ H' = H ∧ x < y ∧ y ≤ m.n ∧ m.begins.getD x 0 ≤ c ∧ (y < m.n → c < m.begins.getD y 0))
      (fun σ _ => match σ with | [_, _, some (.int x), some (.int y), _] => (y - x).toNat | _ => 0) ⟨0, m.n, none, rfl, rfl, by omega, Nat.le_refl _, by rw [hm.zero]; omega, fun z => by omega⟩ ?_ ?_
    · rintro σ H1 ⟨x, y, v4, rfl, rfl, hxy, hyn, h1, h2⟩
      refine ⟨_, rfl, _, rfl, _, _, rfl, rfl, _, _, rfl, rfl, _, rfl, iteD (fun h => ?_) (fun h => ?_)⟩
      · refine ⟨_, rfl, _, rfl, _, _, rfl, rfl, _, _, rfl, rfl, ⟨by decide, by decide⟩, ?_⟩
        have em : ((x : Int) + (y : Int)) / 2 = (((x + y) / 2 : Nat) : Int) := by omega
        show gName 4 (V.int (((x : Int) + (y : Int)) / 2)) _ _ _
        rw [em]
        have hml : (x + y) / 2 < m.n := by omega
        refine ⟨_, rfl, a, _, dx, _, _, rfl, ho, T.cl_Model, T.n_Model_begins, mf_begins _ _, _, rfl, lb, _, _, _, rfl, rfl, SqL.of hb, at_of (j := (x + y) / 2) rfl (nV_get hml), _, rfl, _, _, rfl, rfl, _, rfl, iteD (fun h3 => ?_) (fun h3 => ?_)⟩
        · refine ⟨_, rfl, ?_⟩
          refine ⟨⟨(x + y) / 2, y, _, rfl, rfl, by omega, hyn, by omega, h2⟩, ?_⟩
          show (((y : Int) - (((x + y) / 2 : Nat) : Int)).toNat) < ((y : Int) - (x : Int)).toNat
          omega
        · refine ⟨_, rfl, ?_⟩
          refine ⟨⟨x, (x + y) / 2, _, rfl, rfl, by omega, by omega, h1, fun _ => by omega⟩, ?_⟩
          show (((((x + y) / 2 : Nat) : Int) - (x : Int)).toNat) < ((y : Int) - (x : Int)).toNat
          omega
      · have ey : y = x + 1 := by omega
        subst ey
        rw [at_eq hm (by omega) h1 (fun z => h2 z)] at k
        exact ⟨_, rfl, k⟩
    · rintro σ H1 Q1 Q2 h ⟨v, e, v', e', i, j, e1, e2, i2, j2, e3, e4, b, e5, q⟩
      exact ⟨v, e, v', e', i, j, e1, e2, i2, j2, e3, e4, b, e5, h _ _ q⟩
def sp_kinds_fit (T : Txt K mg) : Sp := fun vs H Q _ => ∃ (q l : Addr) (ns : List Nat) (ms : Models) (as bs : List Addr), vs = [.ref q, .ref l] ∧ SqL K H q (nV ns) ∧ ModelsAt T H l ms as bs ∧ ns.length ≤ 5000 ∧ ∀ H', Same H H' → Q (.bl (Coder.wantsIn ms ns).isSome) H'
theorem ok_kinds_fit (T : Txt K mg) : FnOk P w K mg base CX0 2 T.f_kinds_fit T.d_kinds_fit ["numbers", "models"] (sp_kinds_fit T) := by
  refine T.F_kinds_fit.ok sc_kinds_fit (fun vs H Q E h => ?_) (fun cdv A outer s H vs Q E hr h => ?_)
  · obtain ⟨q, l, ns, ms, as, bs, rfl, _⟩ := h; rfl
  · obtain ⟨q, l, ns, ms, as, bs, rfl, hq, hM, hlen, k⟩ := h
    refine ⟨_, (pss_cons (ps_if (pt_cmpR op_ne (pe_op op_mod (pe_callB call_len_seq (by rfl) T.bl_len PySem.boot_len (pa_cons (pv 0) pa_nil)) pe_int) pe_int (nomark _)) (pss_one (ps_ret pe_bl)) pss_nil) (pss_one (ps_ret (pe_callB (cr_all rfl) (by rfl) T.bl_all PyProof.Rows.boot_all (pa_cons (pe_lc (own := [("what", 2), ("of", 3)]) rfl sc_kinds_fit.nd (pi_zip rfl T.bl_zip (pa_cons (pe_sliceK (pv 0) (po_some pe_int) (po_some pe_int)) (pa_cons (pe_sliceK (pv 0) (po_some pe_int) (po_some pe_int)) pa_nil))) (blkOk_by (show blkC ["numbers", "models", "what", "of"] (defScope s_kinds_fit) _ _ = true by decide +kernel)) (fun _ _ _ _ _ => by exact pg_tupK (K := K) (n := 2) rfl rfl (pgs_cons (pg_name (i := 2) sc_kinds_fit.nd rfl (Or.inl rfl)) (pgs_cons (pg_name (i := 3) sc_kinds_fit.nd rfl (Or.inl rfl)) pgs_nil))) (fun _ _ _ _ _ => by exact pts_nil) (fun _ _ _ _ _ => by exact (pe_call (ok_kind_fits T) (hr.mono (by decide)) rfl T.m_kind_fits T.F_kind_fits.kp T.b_kind_fits .nil pass0 (pa_cons (pv 2) (pa_cons (pv 3) (pa_cons (pv 1) pa_nil)))))) pa_nil))))), ?_⟩
    refine ⟨_, rfl, _, _, rfl, .inl hq, _, _, rfl, rfl, (by show (0 : Int) < 2; decide), rfl, _, rfl, iteI' (fun h => ?_) (fun h => ?_)⟩
    · rw [nV_len] at h
      rw [wantsIn_odd ms ns.length ns rfl (by omega)] at k
      exact k H (Same.refl H)
    rw [nV_len] at h
    obtain ⟨ts, ets, hts⟩ := flat2_of (ns.length / 2) ns (by omega)
    subst ets
    have hl := flat2_len ts
    have ek : (Coder.wantsIn ms (flat2 ts)).isSome = ts.all fun t => Coder.wantOk ms t.1 t.2 := by
      rw [wantsIn_flat2]
      by_cases h : (ts.all fun t => Coder.wantOk ms t.1 t.2) = true
      · rw [if_pos h, h]; rfl
      · rw [if_neg h]
        simp only [Bool.not_eq_true] at h
        rw [h]; rfl
    rw [ek] at k
    refine ⟨_, rfl, _, rfl, _, rfl, q, _, 0, 2, rfl, rfl, rfl, by decide, hq, fun p1 hp1 => ?_⟩
    rw [sl3]
    have s1 := Same.new (o := .lst (nV (stepV (flat2 ts) 0 2))) hp1
    refine ⟨_, rfl, _, rfl, _, rfl, q, _, 1, 2, rfl, rfl, rfl, by decide, s1.seq hq, fun p2 hp2 => ?_⟩
    rw [sl3]
    have a2 := Same.new (o := .lst (nV (stepV (flat2 ts) 1 2))) hp2
    have s2 := s1.trans a2
    have k1 := a2 p1 _ upd_same
    refine ⟨p1, p2, _, _, rfl, SqL.of k1, SqL.of upd_same, fun D hD => ?_⟩
    have a3 := Same.new (o := .lst []) hD
    refine lc_it0 (n := ts.length) (fun i H' => Same H H' ∧ H D = none ∧ H' p1 = some (.lst (nV (stepV (flat2 ts) 0 2))) ∧ H' p2 = some (.lst (nV (stepV (flat2 ts) 1 2))) ∧ p1 ≠ D ∧ p2 ≠ D ∧ H' D = some (.lst (((ts.take i).map fun t => Coder.wantOk ms t.1 t.2).map V.bl)))
      ⟨s2.trans a3, s2.free hD, a3 _ _ k1, a3 _ _ upd_same, ne_of_none k1 hD, ne_of_none upd_same hD, upd_same⟩ ?_ ?_ ?_ ?_ ?_
    · rintro i H' hi ⟨_, _, g1, g2, _⟩
      exact (zip2_go hi (SqL.of g1) (SqL.of g2)).1
    · rintro H' ⟨_, _, g1, g2, _⟩
      exact zip2_stop (SqL.of g1) (SqL.of g2)
    · rintro i x H1 H2 hi ⟨sm, hDn, g1, g2, n1, n2, hD1⟩ hy
      obtain ⟨r, t, et, rfl, hr1, rfl⟩ := (zip2_go hi (SqL.of g1) (SqL.of g2)).2 _ _ hy
      have s5 : Same H1 (upd H1 r (.tup [iV t.1, iV t.2])) := Same.new hr1
      refine ⟨r, _, rfl, SqT.of upd_same, rfl, _, _, rfl, _, _, rfl, rfl, rfl, ?_⟩
      refine ⟨_, rfl, _, rfl, _, rfl, t.1, t.2, l, ms, as, bs, rfl, hM.same (sm.trans s5), _, s5 _ _ hD1, ?_, ?_⟩
      · rw [List.length_map, List.length_map, List.length_take]
        exact Nat.lt_of_le_of_lt (show _ ≤ 5000 by omega) (by decide)
      · refine ⟨fun b o e => ?_, hDn, ?_, ?_, n1, n2, ?_⟩
        · rw [upd_ne (ne_of_none e hDn)]; exact s5 _ _ (sm _ _ e)
        · rw [upd_ne n1]; exact s5 _ _ g1
        · rw [upd_ne n2]; exact s5 _ _ g2
        · rw [upd_same, take_snoc et, List.map_append, List.map_append]
          rfl
    · rintro H' ⟨sm, hDn, g1, g2, n1, n2, hD1⟩
      rw [List.take_length] at hD1
      refine ⟨D, _, rfl, SqL.of hD1, ?_⟩
      have e : (ts.map fun t => Coder.wantOk ms t.1 t.2).all id = ts.all fun t => Coder.wantOk ms t.1 t.2 := by rw [List.all_map]; rfl
      rw [e]
      exact k H' sm
    · rintro x σ H1 Q1 Q2 hq1 ⟨a, xs, e1, e2, e3, v, r, e4, v', r', e5, e6, q1⟩
      exact ⟨a, xs, e1, e2, e3, v, r, e4, v', r', e5, e6, hq1 _ _ q1⟩
end FB
end
section
namespace FB
open PySem PySem.Spec PyProof.Rows L2 FM
open LwBits (Item Models Want)
open LwBits (Reader)
variable {P : Program} {w : World} {K : PySem.W.Frag} {mg : Str → Option Value} {base : Heap}
structure AA where
  o : Addr
  stl : Addr
  pl : Addr
  wd : Addr
  a : Addr
  l : Addr
  wl : Addr
  as : List Addr
  bs : List Addr
def AA.foot (x : AA) : List Addr := x.a :: x.l :: x.wl :: (x.as ++ x.bs)
def AA.all (x : AA) : List Addr := x.o :: x.stl :: x.pl :: x.wd :: x.foot
def AA.mut (x : AA) : List Addr := [x.o, x.stl, x.pl]
def af (a stl wd : Addr) (wr : Nat) (pl : Addr) : List (Str × V) := [("row", .ref a), ("states", .ref stl), ("words", .ref wd), ("words_read", iV wr), ("pieces", .ref pl)]
section
variable (a stl wd : Addr) (wr : Nat) (pl : Addr)
theorem af_row : (af a stl wd wr pl).lookup ("row" : Str) = some (.ref a) := rfl
theorem af_states : (af a stl wd wr pl).lookup ("states" : Str) = some (.ref stl) := rfl
theorem af_words : (af a stl wd wr pl).lookup ("words" : Str) = some (.ref wd) := rfl
theorem af_words_read : (af a stl wd wr pl).lookup ("words_read" : Str) = some (iV wr) := rfl
theorem af_pieces : (af a stl wd wr pl).lookup ("pieces" : Str) = some (.ref pl) := rfl
end
structure AttAt (T : Txt K mg) (H : Hp) (x : AA) (R : RowS) (ws : List Nat) (r : Reader) (pcs : List Item) (wr : Nat) : Prop where
  ob : ∃ dx, H x.o = some (.ins T.C_Attempt dx (af x.a x.stl x.wd wr x.pl))
  row : RowAt T H x.a x.l x.wl x.as x.bs R
  st : H x.stl = some (.lst (nV r.states))
  wds : H x.wd = some (.lst (nV ws))
  pc : TupsL H x.pl (itsV pcs)
  nd : x.all.Nodup
  rw_ : r.words = ws.drop wr
  wle : wr ≤ ws.length
  rm : (r.models, r.group) = goAll R.lanes (R.ms, R.group) pcs
  rl : r.lanes = R.lanes
  sl : r.states.length = R.lanes
  pk : ∀ it ∈ pcs, ItOk (shp R.ms) it
theorem AttAt.gl {T : Txt K mg} {H : Hp} {x : AA} {R : RowS} {ws : List Nat} {r : Reader} {pcs : List Item} {wr : Nat} (h : AttAt T H x R ws r pcs wr) : r.group.length = (R.total + pcs.length) % R.lanes ∧ r.group.length < R.lanes := by
  have hlt : R.group.length < R.lanes := by rw [h.row.gl]; exact Nat.mod_lt _ h.row.l0
  have e := goAll_len pcs (R.ms, R.group) hlt
  rw [← h.rm] at e
  have e : r.group.length = (R.group.length + pcs.length) % R.lanes := e
  rw [h.row.gl, Nat.mod_add_mod] at e
  exact ⟨e, by rw [e]; exact Nat.mod_lt _ h.row.l0⟩
theorem AttAt.shp_eq {T : Txt K mg} {H : Hp} {x : AA} {R : RowS} {ws : List Nat} {r : Reader} {pcs : List Item} {wr : Nat} (h : AttAt T H x R ws r pcs wr) : shp r.models = shp R.ms := by
  have e := goAll_shp R.lanes pcs (R.ms, R.group)
  rw [← h.rm] at e
  exact e
theorem AttAt.mok {T : Txt K mg} {H : Hp} {x : AA} {R : RowS} {ws : List Nat} {r : Reader} {pcs : List Item} {wr : Nat} (h : AttAt T H x R ws r pcs wr) : MsOk r.models := by
  have e := goAll_ok (n := R.lanes) (l := pcs) (p := (R.ms, R.group)) h.row.ok
  rw [← h.rm] at e
  exact e
theorem AttAt.kp {T : Txt K mg} {H H' : Hp} {x : AA} {R : RowS} {ws : List Nat} {r : Reader} {pcs : List Item} {wr : Nat} {S : List Addr} (h : AttAt T H x R ws r pcs wr) (kp : Kp S H H') (d : ∀ y ∈ x.all, y ∉ S) (nt : ∀ y ∈ S, ∀ vs, H y ≠ some (.tup vs)) : AttAt T H' x R ws r pcs wr := by
  obtain ⟨dx, ho⟩ := h.ob
  exact ⟨⟨dx, kp _ _ ho (d _ (by simp [AA.all]))⟩, h.row.kp kp (fun y hy => d y (by simp only [AA.all, List.mem_cons]; exact .inr (.inr (.inr (.inr hy))))) nt, kp _ _ h.st (d _ (by simp [AA.all])), kp _ _ h.wds (d _ (by simp [AA.all])), h.pc.kp kp (d _ (by simp [AA.all])) nt, h.nd, h.rw_, h.wle, h.rm, h.rl, h.sl, h.pk⟩
theorem AttAt.same {T : Txt K mg} {H H' : Hp} {x : AA} {R : RowS} {ws : List Nat} {r : Reader} {pcs : List Item} {wr : Nat} (h : AttAt T H x R ws r pcs wr) (s : Same H H') : AttAt T H' x R ws r pcs wr :=
  h.kp (S := []) (fun c o e _ => s c o e) (fun _ _ z => by cases z) (fun _ z => by cases z)
theorem AA.ne {x : AA} (h : x.all.Nodup) : x.o ≠ x.stl ∧ x.o ≠ x.pl ∧ x.o ≠ x.wd ∧ x.o ∉ x.foot ∧ x.stl ≠ x.pl ∧ x.stl ≠ x.wd ∧ x.stl ∉ x.foot ∧ x.pl ≠ x.wd ∧ x.pl ∉ x.foot ∧ x.wd ∉ x.foot := by
  simp only [AA.all, List.nodup_cons, List.mem_cons, not_or] at h
  obtain ⟨⟨h1, h2, h3, h4⟩, ⟨h5, h6, h7⟩, ⟨h8, h9⟩, h10, _⟩ := h
  exact ⟨h1, h2, h3, h4, h5, h6, h7, h8, h9, h10⟩
theorem AttAt.word {T : Txt K mg} {H : Hp} {x : AA} {R : RowS} {ws : List Nat} {r : Reader} {pcs : List Item} {wr u : Nat} {t : List Nat} {dx : Addr} (h : AttAt T H x R ws r pcs wr) (hw : r.words = u :: t) (ho : H x.o = some (.ins T.C_Attempt dx (af x.a x.stl x.wd wr x.pl))) :
    AttAt T (upd H x.o (.ins T.C_Attempt dx (af x.a x.stl x.wd (wr + 1) x.pl))) x R ws { r with words := t } pcs (wr + 1) := by
  obtain ⟨n1, n2, n3, n4, _⟩ := AA.ne h.nd
  have kp : Kp [x.o] H (upd H x.o (.ins T.C_Attempt dx (af x.a x.stl x.wd (wr + 1) x.pl))) := Kp.upd
  have nt : ∀ y ∈ [x.o], ∀ vs, H y ≠ some (.tup vs) := fun y hy vs e => by
    have hy : y = x.o := by simpa using hy
    rw [hy, ho] at e; cases e
  have hd := h.rw_
  rw [hw] at hd
  have hlt : wr < ws.length := by
    by_cases z : wr < ws.length
    · exact z
    · rw [List.drop_eq_nil_of_le (by omega)] at hd; cases hd
  have hd2 : t = ws.drop (wr + 1) := by
    rw [List.drop_eq_getElem_cons hlt] at hd
    injection hd
  exact ⟨⟨dx, upd_same⟩, h.row.kp kp (fun y hy => by simpa using fun z : y = x.o => n4 (z ▸ hy)) nt, kp _ _ h.st (by simpa using Ne.symm n1), kp _ _ h.wds (by simpa using Ne.symm n3), h.pc.kp kp (by simpa using Ne.symm n2) nt, h.nd, hd2, hlt, h.rm, h.rl, h.sl, h.pk⟩
theorem AttAt.adv {T : Txt K mg} {H : Hp} {x : AA} {R : RowS} {ws : List Nat} {r : Reader} {pcs : List Item} {wr y : Nat} {it : Item} {rs : List Addr} {t : Addr} (h : AttAt T H x R ws r pcs wr) (hi : ItOk (shp R.ms) it) (hpl : H x.pl = some (.lst (rs.map V.ref))) (hts : TupsAt H rs (itsV pcs)) (ht : H t = some (.tup (itV it))) :
    AttAt T (upd (upd H x.stl (.lst (nV (r.states.set r.group.length y)))) x.pl (.lst (rs.map V.ref ++ [V.ref t]))) x R ws (adv r it y r.words) (pcs ++ [it]) wr := by
  obtain ⟨n1, n2, n3, n4, n5, n6, n7, n8, n9, n10⟩ := AA.ne h.nd
  obtain ⟨dx, ho⟩ := h.ob
  have kp : Kp [x.stl, x.pl] H (upd (upd H x.stl (.lst (nV (r.states.set r.group.length y)))) x.pl (.lst (rs.map V.ref ++ [V.ref t]))) := fun c o e n => by
    have n : c ≠ x.stl ∧ c ≠ x.pl := by simpa using n
    rw [upd_ne n.2, upd_ne n.1]; exact e
  have nt : ∀ y ∈ [x.stl, x.pl], ∀ vs, H y ≠ some (.tup vs) := fun y hy vs e => by
    have hy : y = x.stl ∨ y = x.pl := by simpa using hy
    rcases hy with hy | hy
    · rw [hy, h.st] at e; cases e
    · rw [hy, hpl] at e; cases e
  refine ⟨⟨dx, kp _ _ ho (by simpa using ⟨n1, n2⟩)⟩, h.row.kp kp (fun y hy => by simpa using ⟨fun z : y = x.stl => n7 (z ▸ hy), fun z : y = x.pl => n9 (z ▸ hy)⟩) nt, ?_, kp _ _ h.wds (by simpa using ⟨Ne.symm n6, Ne.symm n8⟩), ⟨rs ++ [t], ?_, ?_⟩, h.nd, h.rw_, h.wle, ?_, h.rl, ?_, ?_⟩
  · rw [upd_ne n5, upd_same]; rfl
  · rw [upd_same, List.map_append]; rfl
  · rw [itsV, List.map_append]
    exact (hts.step fun c vs e => kp _ _ e fun z => nt c z vs e).app (.one (kp _ _ ht fun z => nt t z _ ht))
  · show goOn r.lanes (r.models, r.group) it = _
    rw [goAll_snoc, ← h.rm, h.rl]
  · show (r.states.set r.group.length y).length = R.lanes
    rw [List.length_set]; exact h.sl
  · intro z hz
    rcases List.mem_append.mp hz with q | q
    · exact h.pk z q
    · have q : z = it := by simpa using q
      rw [q]; exact hi
def sp_Attempt_lane (T : Txt K mg) : Sp := fun vs H Q _ => ∃ (x : AA) (R : RowS) (ws : List Nat) (r : Reader) (pcs : List Item) (wr : Nat), vs = [.ref x.o] ∧ AttAt T H x R ws r pcs wr ∧ Q (iV r.group.length) H
theorem ok_Attempt_lane (T : Txt K mg) : FnOk P w K mg base CX0 1 T.f_Attempt_lane T.d_Attempt_lane ["self"] (sp_Attempt_lane T) := by
  refine T.F_Attempt_lane.ok sc_Attempt_lane (fun vs H Q E h => ?_) (fun cdv A outer s H vs Q E hr h => ?_)
  · obtain ⟨x, R, ws, r, pcs, wr, rfl, _⟩ := h; rfl
  · obtain ⟨x, R, ws, r, pcs, wr, rfl, hA, k⟩ := h
    refine ⟨_, (pss_one (ps_ret (pe_op op_mod (pe_op op_add (pe_fld (pe_fld (pv 0) rfl) rfl) (pe_callB call_len_seq (by rfl) T.bl_len PySem.boot_len (pa_cons (pe_fld (pv 0) rfl) pa_nil))) (pe_fld (pe_fld (pv 0) rfl) rfl)))), ?_⟩
    obtain ⟨dx, ho⟩ := hA.ob
    obtain ⟨dr, hor⟩ := hA.row.ob
    obtain ⟨rs, hpl, hts⟩ := hA.pc
    have hl : (rs.map V.ref).length = pcs.length := by rw [List.length_map, hts.len, List.length_map]
    have h0 := hA.row.l0
    refine ⟨_, rfl, x.o, _, dx, _, _, rfl, ho, T.cl_Attempt, T.n_Attempt_row, af_row _ _ _ _ _, x.a, _, dr, _, _, rfl, hor, T.cl_Row, T.n_Row_total, rf_total _ _ _ _, _, rfl, x.o, _, dx, _, _, rfl, ho, T.cl_Attempt, T.n_Attempt_pieces, af_pieces _ _ _ _ _, x.pl, _, rfl, .inl (SqL.of hpl), _, _, rfl, rfl,
      _, rfl, x.o, _, dx, _, _, rfl, ho, T.cl_Attempt, T.n_Attempt_row, af_row _ _ _ _ _, x.a, _, dr, _, _, rfl, hor, T.cl_Row, T.n_Row_lanes, rf_lanes _ _ _ _, _, _, rfl, rfl, (by show (0 : Int) < (R.lanes : Int); omega), ?_⟩
    show Q (V.int (((R.total : Int) + (((rs.map V.ref).length : Nat) : Int)) % (R.lanes : Int))) H
    have e : ((R.total : Int) + (((rs.map V.ref).length : Nat) : Int)) % (R.lanes : Int) = ((r.group.length : Nat) : Int) := by
      rw [hl, hA.gl.1]
      exact (Int.natCast_emod (R.total + pcs.length) R.lanes).symm
    rw [e]
    exact k
def sp_Attempt_spot (T : Txt K mg) : Sp := fun vs H Q _ => ∃ (x : AA) (R : RowS) (ws : List Nat) (r : Reader) (pcs : List Item) (wr : Nat), vs = [.ref x.o] ∧ AttAt T H x R ws r pcs wr ∧ Q (iV (r.states.getD r.group.length 0 % LwBits.ALL)) H
theorem ok_Attempt_spot (T : Txt K mg) : FnOk P w K mg base CX0 2 T.f_Attempt_spot T.d_Attempt_spot ["self"] (sp_Attempt_spot T) := by
  refine T.F_Attempt_spot.ok sc_Attempt_spot (fun vs H Q E h => ?_) (fun cdv A outer s H vs Q E hr h => ?_)
  · obtain ⟨x, R, ws, r, pcs, wr, rfl, _⟩ := h; rfl
  · obtain ⟨x, R, ws, r, pcs, wr, rfl, hA, k⟩ := h
    refine ⟨_, (pss_one (ps_ret (pe_op op_mod (pe_ix ix_list (pe_fld (pv 0) rfl) (pe_meth0 (pv 0) T.cl_Attempt T.me_Attempt_lane (ok_Attempt_lane T) (hr.mono (by decide)) T.b_Attempt_lane .nil pass0) (fun _ _ => rfl)) (pe_gi rfl T.g_PLACES)))), ?_⟩
    obtain ⟨dx, ho⟩ := hA.ob
    refine ⟨_, rfl, x.o, _, dx, _, _, rfl, ho, T.cl_Attempt, T.n_Attempt_states, af_states _ _ _ _ _, _, rfl, x.o, dx, _, rfl, ho, rfl, x, R, ws, r, pcs, wr, rfl, hA, x.stl, _, _, _, rfl, rfl, SqL.of hA.st, at_of (j := r.group.length) rfl (nV_get (by rw [hA.sl]; exact hA.gl.2)), _, _, rfl, rfl, (by show (0 : Int) < 32768; decide), ?_⟩
    have e : ((r.states.getD r.group.length 0 : Nat) : Int) % 32768 = ((r.states.getD r.group.length 0 % LwBits.ALL : Nat) : Int) := by
      have : LwBits.ALL = 32768 := rfl
      rw [this]; omega
    show Q (V.int (((r.states.getD r.group.length 0 : Nat) : Int) % 32768)) H
    rw [e]
    exact k
def sp_Attempt_take_word (T : Txt K mg) : Sp := fun vs H Q E => ∃ (x : AA) (R : RowS) (ws : List Nat) (r : Reader) (pcs : List Item) (wr : Nat), vs = [.ref x.o] ∧ AttAt T H x R ws r pcs wr ∧
  (∀ u t, r.words = u :: t → ∀ H', AttAt T H' x R ws { r with words := t } pcs (wr + 1) → Kp [x.o] H H' → Q (iV u) H') ∧ (r.words = [] → E (.ref T.C_WordLacks) none H)
theorem ok_Attempt_take_word (T : Txt K mg) : FnOk P w K mg base (CXw P w T.C_WordLacks) 1 T.f_Attempt_take_word T.d_Attempt_take_word ["self"] (sp_Attempt_take_word T) := by
  refine Fun.okw T.F_Attempt_take_word sc_Attempt_take_word (fun vs H Q E h => ?_) (fun cdv A outer s H vs Q E hr h => ?_)
  · obtain ⟨x, R, ws, r, pcs, wr, rfl, _⟩ := h; rfl
  · obtain ⟨x, R, ws, r, pcs, wr, rfl, hA, k1, k2⟩ := h
    refine ⟨_, (pss_cons (ps_if (pt_cmpR op_eq (pe_fld (pv 0) rfl) (pe_callB call_len_seq (by rfl) T.bl_len PySem.boot_len (pa_cons (pe_fld (pv 0) rfl) pa_nil)) (nomark _)) (pss_one (ps_raise T.ow_WordLacks rfl (pa_cons pe_str pa_nil))) pss_nil) (pss_cons (ps_set (i := 1) sc_Attempt_take_word.nd rfl (Or.inl rfl) (pe_ix ix_list (pe_fld (pv 0) rfl) (pe_fld (pv 0) rfl) (fun _ _ => rfl))) (pss_cons (ps_fld (pv 0) (pe_op op_add (pe_fld (pv 0) rfl) pe_int) rfl) (pss_one (ps_ret (pv 1)))))), ?_⟩
    obtain ⟨dx, ho⟩ := hA.ob
    refine ⟨_, rfl, x.o, _, dx, _, _, rfl, ho, T.cl_Attempt, T.n_Attempt_words_read, af_words_read _ _ _ _ _, _, rfl, x.o, _, dx, _, _, rfl, ho, T.cl_Attempt, T.n_Attempt_words, af_words _ _ _ _ _, x.wd, _, rfl, .inl (SqL.of hA.wds), rfl, _, rfl, iteI (fun h => ?_) (fun h => ?_)⟩
    · rw [nV_len] at h
      refine ⟨(by show 1 ≤ sizeLine; decide), k2 ?_⟩
      rw [hA.rw_, List.drop_eq_nil_of_le (by omega)]
    · rw [nV_len] at h
      have hlt : wr < ws.length := by have := hA.wle; omega
      have hw : r.words = ws.getD wr 0 :: ws.drop (wr + 1) := by
        rw [hA.rw_, List.drop_eq_getElem_cons hlt]
        simp [List.getD, hlt]
      refine ⟨_, rfl, x.o, _, dx, _, _, rfl, ho, T.cl_Attempt, T.n_Attempt_words, af_words _ _ _ _ _, _, rfl, x.o, _, dx, _, _, rfl, ho, T.cl_Attempt, T.n_Attempt_words_read, af_words_read _ _ _ _ _, x.wd, _, _, _, rfl, rfl, SqL.of hA.wds, at_of (j := wr) rfl (nV_get hlt), ?_⟩
      refine ⟨_, rfl, x.o, _, dx, _, _, rfl, ho, T.cl_Attempt, T.n_Attempt_words_read, af_words_read _ _ _ _ _, _, _, rfl, rfl, _, rfl, x.o, _, dx, _, rfl, ho, T.cl_Attempt, T.n_Attempt_words_read, (by show 5 < 1000; decide), ?_⟩
      exact ⟨_, rfl, k1 _ _ hw _ (hA.word hw ho) Kp.upd⟩
def sp_Attempt_take_out (T : Txt K mg) : Sp := fun vs H Q E => ∃ (x : AA) (R : RowS) (ws : List Nat) (r : Reader) (pcs : List Item) (wr : Nat) (wt : Want) (t : Addr), vs = [.ref x.o, .ref t] ∧ AttAt T H x R ws r pcs wr ∧ pcs.length ≤ 20 ∧ WOk r.models wt ∧ H t = some (.tup (itV (gotI r wt))) ∧ (gotI r wt).share R.ms = (gotI r wt).share r.models ∧
  (∀ r', r.next wt = some (gotI r wt, r') → ∀ H' wr', AttAt T H' x R ws r' (pcs ++ [gotI r wt]) wr' → Kp x.mut H H' → Q .non H') ∧ (r.next wt = none → ∀ H', Kp x.mut H H' → E (.ref T.C_WordLacks) none H')
theorem ok_Attempt_take_out (T : Txt K mg) : FnOk P w K mg base (CXw P w T.C_WordLacks) 3 T.f_Attempt_take_out T.d_Attempt_take_out ["self", "piece"] (sp_Attempt_take_out T) := by
  refine Fun.okw T.F_Attempt_take_out sc_Attempt_take_out (fun vs H Q E h => ?_) (fun cdv A outer s H vs Q E hr h => ?_)
  · obtain ⟨x, R, ws, r, pcs, wr, wt, t, rfl, _⟩ := h; rfl
  · obtain ⟨x, R, ws, r, pcs, wr, wt, t, rfl, hA, hpl20, hwok, ht, hsh, k1, k2⟩ := h
    refine ⟨_, (pss_cons (ps_set (i := 2) sc_Attempt_take_out.nd rfl (Or.inl rfl) (pe_meth0 (pv 0) T.cl_Attempt T.me_Attempt_lane (ok_Attempt_lane T) (hr.mono (by decide)) T.b_Attempt_lane .nil pass0)) (pss_cons (ps_set (i := 3) sc_Attempt_take_out.nd rfl (Or.inl rfl) (pe_meth (pe_fld (pv 0) rfl) T.cl_Row T.me_Row_piece_share (ok_Row_piece_share T) (hr.mono (by decide)) T.b_Row_piece_share .nil pass0 (pa_cons (pv 1) pa_nil))) (pss_cons (ps_set (i := 4) sc_Attempt_take_out.nd rfl (Or.inl rfl) (pe_call (ok_taken_out T) (hr.mono (by decide)) rfl T.m_taken_out T.F_taken_out.kp T.b_taken_out .nil pass0 (pa_cons (pe_ix ix_list (pe_fld (pv 0) rfl) (pv 2) (fun _ _ => rfl)) (pa_cons (pe_ix ix_tup (pv 3) pe_int (fun _ _ => rfl)) (pa_cons (pe_ix ix_tup (pv 3) pe_int (fun _ _ => rfl)) pa_nil))))) (pss_cons (ps_if (pt_cmpR op_lt (pv 4) (pe_gi rfl T.g_LEAST_STATE) (nomark _)) (pss_one (ps_set (i := 4) sc_Attempt_take_out.nd rfl (Or.inl rfl) (pe_op op_add (pe_op op_mul (pv 4) (pe_gi rfl T.g_WORD)) (pe_meth0 (pv 0) T.cl_Attempt T.me_Attempt_take_word (ok_Attempt_take_word T) (hr.mono (by decide)) T.b_Attempt_take_word .nil passw)))) pss_nil) (pss_cons (ps_asg (pv 4) (pg_sub (pe_fld (pv 0) rfl) (pv 2) set_list)) (pss_one (ps_expr (pe_bm PySem.F.plainAttrs_list PySem.F.slot_list_append PySem.F.type_list_append mt_append (pe_fld (pv 0) rfl) (pa_cons (pv 1) pa_nil))))))))), ?_⟩
    obtain ⟨dx, ho⟩ := hA.ob
    obtain ⟨dr, hor⟩ := hA.row.ob
    obtain ⟨gi1, gi2⟩ := gotI_ok hA.mok hwok
    have gi3 : ItOk (shp R.ms) (gotI r wt) := by rw [← hA.shp_eq]; exact gi1
    have gsz := share_ok hA.row.ok gi3
    have hgl := hA.gl.2
    refine ⟨_, rfl, x.o, dx, _, rfl, ho, rfl, x, R, ws, r, pcs, wr, rfl, hA, ?_⟩
    refine ⟨_, rfl, x.o, _, dx, _, _, rfl, ho, T.cl_Attempt, T.n_Attempt_row, af_row _ _ _ _ _, x.a, dr, _, rfl, hor, rfl, _, rfl, x.a, x.l, x.wl, t, x.as, x.bs, R, gotI r wt, rfl, hA.row, ht, ItOk.sh gi3, fun H2 sh s2 hshn hsht => ?_⟩
    have hA2 := hA.same s2
    have ho2 := s2 _ _ ho
    have hsht' : H2 sh = some (.tup [iV ((gotI r wt).share r.models).1, iV ((gotI r wt).share r.models).2]) := by rw [← hsh]; exact hsht
    refine ⟨_, rfl, x.o, _, dx, _, _, rfl, ho2, T.cl_Attempt, T.n_Attempt_states, af_states _ _ _ _ _, _, rfl, x.stl, _, _, _, rfl, rfl, SqL.of hA2.st, at_of (j := r.group.length) rfl (nV_get (by rw [hA.sl]; exact hgl)), _, rfl, sh, _, _, _, rfl, rfl, SqT.of hsht', at_of (j := 0) rfl rfl, _, rfl, sh, _, _, _, rfl, rfl, SqT.of hsht', at_of (j := 1) rfl rfl,
      r.states.getD r.group.length 0, ((gotI r wt).share r.models).1, ((gotI r wt).share r.models).2, rfl, gi2, by rw [← hsh]; exact gsz.2, ?_⟩
    have hnext := next_eq r wt
    have ey : LwBits.pop (r.states.getD r.group.length 0) ((gotI r wt).share r.models).1 ((gotI r wt).share r.models).2 = gotY r wt := rfl
    rw [ey]
    refine ⟨_, rfl, _, _, rfl, rfl, _, rfl, ?_⟩
    generalize hc : decide (((gotY r wt : Nat) : Int) < 65536) = c
    have rslen : ∀ {rs : List Addr} {H3 : Hp}, TupsAt H3 rs (itsV pcs) → (rs.map V.ref).length < sizeLine := fun h3 => by
      rw [List.length_map, h3.len, List.length_map]
      exact Nat.lt_of_le_of_lt hpl20 (by decide)
    obtain ⟨n1, n2, n3, n4, n5, n6, n7, n8, n9, n10⟩ := AA.ne hA.nd
    refine iteB (fun h => ?_) (fun h => ?_)
    · rw [h] at hc
      have hlow : ¬ LwBits.LOW ≤ gotY r wt := by
        have hc := of_decide_eq_true hc
        unfold LwBits.LOW
        omega
      rw [if_neg hlow] at hnext
      refine ⟨_, rfl, _, _, rfl, rfl, .inr ⟨by decide, by decide⟩, _, rfl, x.o, dx, _, rfl, ho2, rfl, x, R, ws, r, pcs, wr, rfl, hA2, fun u tl hw H3 hA3 kp3 => ?_, fun hw => ?_⟩
      · rw [hw] at hnext
        obtain ⟨dx3, ho3⟩ := hA3.ob
        obtain ⟨rs, hpl, hts⟩ := hA3.pc
        have nto : t ≠ x.o := ne_of (s2 _ _ ht) ho2 (by intro z; cases z)
        have ht3 := kp3 _ _ (s2 _ _ ht) (by simpa using nto)
        refine ⟨_, _, rfl, rfl, ?_⟩
        have ez : ((gotY r wt : Nat) : Int) * 65536 + (u : Int) = ((gotY r wt * 65536 + u : Nat) : Int) := by omega
        show gName 4 (V.int (((gotY r wt : Nat) : Int) * 65536 + (u : Int))) _ _ _
        rw [ez]
        refine ⟨_, rfl, _, rfl, x.o, _, dx3, _, _, rfl, ho3, T.cl_Attempt, T.n_Attempt_states, af_states _ _ _ _ _, _, rfl, x.stl, _, _, r.group.length, rfl, rfl, hA3.st, ixN_nat rfl (by rw [nV_len, hA3.sl]; exact hgl), ?_⟩
        have e4 : (upd H3 x.stl (.lst ((nV r.states).set r.group.length (iV (gotY r wt * 65536 + u))))) = upd H3 x.stl (.lst (nV (r.states.set r.group.length (gotY r wt * 65536 + u)))) := by rw [nV_set]
        dsimp only
        rw [e4]
        have ho4 : (upd H3 x.stl (.lst (nV (r.states.set r.group.length (gotY r wt * 65536 + u))))) x.o = some (.ins T.C_Attempt dx3 (af x.a x.stl x.wd (wr + 1) x.pl)) := by rw [upd_ne n1]; exact ho3
        have hpl4 : (upd H3 x.stl (.lst (nV (r.states.set r.group.length (gotY r wt * 65536 + u))))) x.pl = some (.lst (rs.map V.ref)) := by rw [upd_ne (Ne.symm n5)]; exact hpl
        refine ⟨_, rfl, x.o, _, dx3, _, _, rfl, ho4, T.cl_Attempt, T.n_Attempt_pieces, af_pieces _ _ _ _ _, .inl ⟨rfl, _, SqL.of hpl4⟩, _, rfl, x.pl, _, _, rfl, rfl, hpl4, rslen hts, ?_⟩
        refine k1 _ hnext _ (wr + 1) (hA3.adv gi3 hpl hts ht3) fun c o e n => ?_
        have n : c ≠ x.o ∧ c ≠ x.stl ∧ c ≠ x.pl := by simpa [AA.mut] using n
        rw [upd_ne n.2.2, upd_ne n.2.1]
        exact kp3 _ _ (s2 _ _ e) (by simpa using n.1)
      · rw [hw] at hnext
        exact k2 hnext _ (Kp.of s2)
    · rw [h] at hc
      have hlow : LwBits.LOW ≤ gotY r wt := by
        have hc := of_decide_eq_false hc
        unfold LwBits.LOW
        omega
      rw [if_pos hlow] at hnext
      obtain ⟨rs, hpl, hts⟩ := hA2.pc
      refine ⟨_, rfl, _, rfl, x.o, _, dx, _, _, rfl, ho2, T.cl_Attempt, T.n_Attempt_states, af_states _ _ _ _ _, _, rfl, x.stl, _, _, r.group.length, rfl, rfl, hA2.st, ixN_nat rfl (by rw [nV_len, hA2.sl]; exact hgl), ?_⟩
      have e4 : (upd H2 x.stl (.lst ((nV r.states).set r.group.length (iV (gotY r wt))))) = upd H2 x.stl (.lst (nV (r.states.set r.group.length (gotY r wt)))) := by rw [nV_set]
      dsimp only
      rw [e4]
      have ho4 : (upd H2 x.stl (.lst (nV (r.states.set r.group.length (gotY r wt))))) x.o = some (.ins T.C_Attempt dx (af x.a x.stl x.wd wr x.pl)) := by rw [upd_ne n1]; exact ho2
      have hpl4 : (upd H2 x.stl (.lst (nV (r.states.set r.group.length (gotY r wt))))) x.pl = some (.lst (rs.map V.ref)) := by rw [upd_ne (Ne.symm n5)]; exact hpl
      refine ⟨_, rfl, x.o, _, dx, _, _, rfl, ho4, T.cl_Attempt, T.n_Attempt_pieces, af_pieces _ _ _ _ _, .inl ⟨rfl, _, SqL.of hpl4⟩, _, rfl, x.pl, _, _, rfl, rfl, hpl4, rslen hts, ?_⟩
      refine k1 _ hnext _ wr (hA2.adv gi3 hpl hts (s2 _ _ ht)) fun c o e n => ?_
      have n : c ≠ x.o ∧ c ≠ x.stl ∧ c ≠ x.pl := by simpa [AA.mut] using n
      rw [upd_ne n.2.2, upd_ne n.2.1]
      exact s2 _ _ e
end FB
end
section
namespace FB
open PySem PySem.Spec PyProof.Rows L2 FM
open LwBits (Item Models Want)
open LwBits (Reader)
variable {P : Program} {w : World} {K : PySem.W.Frag} {mg : Str → Option Value} {base : Heap}
def sp_Attempt_read_symbol (T : Txt K mg) : Sp := fun vs H Q E => ∃ (x : AA) (R : RowS) (ws : List Nat) (r : Reader) (wr k : Nat), vs = [.ref x.o, iV k] ∧ AttAt T H x R ws r [] wr ∧ k < R.ms.length ∧
  (∀ it r', r.next (.sym k) = some (it, r') → ∀ H' wr', AttAt T H' x R ws r' [it] wr' → Kp x.mut H H' → Q (iV (Coder.valueOf it)) H') ∧ (r.next (.sym k) = none → ∀ H', Kp x.mut H H' → E (.ref T.C_WordLacks) none H')
theorem next_got {r r' : Reader} {wt : Want} {it : Item} (h : r.next wt = some (it, r')) : it = gotI r wt := by
  rw [next_eq] at h
  split at h
  · cases h; rfl
  · cases hw : r.words with
    | nil => rw [hw] at h; cases h
    | cons u t => rw [hw] at h; cases h; rfl
theorem ok_Attempt_read_symbol (T : Txt K mg) : FnOk P w K mg base (CXw P w T.C_WordLacks) 4 T.f_Attempt_read_symbol T.d_Attempt_read_symbol ["self", "k"] (sp_Attempt_read_symbol T) := by
  refine Fun.okw T.F_Attempt_read_symbol sc_Attempt_read_symbol (fun vs H Q E h => ?_) (fun cdv A outer s H vs Q E hr h => ?_)
  · obtain ⟨x, R, ws, r, wr, c, rfl, _⟩ := h; rfl
  · obtain ⟨x, R, ws, r, wr, c, rfl, hA, hc, k1, k2⟩ := h
    refine ⟨_, (pss_cons (ps_set (i := 2) sc_Attempt_read_symbol.nd rfl (Or.inl rfl) (pe_meth (pe_ix ix_list (pe_fld (pe_fld (pv 0) rfl) rfl) (pv 1) (fun _ _ => rfl)) T.cl_Model T.me_Model_symbol_at (ok_Model_symbol_at T) (hr.mono (by decide)) T.b_Model_symbol_at .nil pass0 (pa_cons (pe_meth0 (pv 0) T.cl_Attempt T.me_Attempt_spot (ok_Attempt_spot T) (hr.mono (by decide)) T.b_Attempt_spot .nil pass0) pa_nil))) (pss_cons (ps_expr (pe_meth (pv 0) T.cl_Attempt T.me_Attempt_take_out (ok_Attempt_take_out T) (hr.mono (by decide)) T.b_Attempt_take_out .nil passw (pa_cons (pe_tup (pa_cons (pe_gi rfl T.g_SYMBOL) (pa_cons (pv 1) (pa_cons (pv 2) pa_nil)))) pa_nil))) (pss_one (ps_ret (pv 2))))), ?_⟩
    obtain ⟨dx, ho⟩ := hA.ob
    obtain ⟨dr, hor⟩ := hA.row.ob
    have em : r.models = R.ms := (Prod.mk.inj hA.rm).1
    have ex := List.getElem?_eq_getElem hc
    obtain ⟨a1, b1, h1, h2, hM⟩ := hA.row.md.at_ c _ ex
    obtain ⟨⟨dm, h3⟩, h4⟩ := id hM
    refine ⟨_, rfl, x.o, _, dx, _, _, rfl, ho, T.cl_Attempt, T.n_Attempt_row, af_row _ _ _ _ _, x.a, _, dr, _, _, rfl, hor, T.cl_Row, T.n_Row_models, rf_models _ _ _ _, _, rfl, x.l, _, _, _, rfl, rfl, SqL.of hA.row.md.lst, at_of (j := c) rfl (by rw [List.getElem?_map, h1]; rfl),
      a1, dm, _, rfl, h3, rfl, _, rfl, x.o, dx, _, rfl, ho, rfl, x, R, ws, r, [], wr, rfl, hA, a1, b1, _, _, rfl, hM, hA.row.ok _ (List.getElem_mem hc), ?_⟩
    have eg : gotI r (.sym c) = .sym c (R.ms[c].at_ (r.states.getD r.group.length 0 % LwBits.ALL)) := by
      unfold gotI
      show Item.sym c (match r.models[c]? with | some x => x.at_ _ | none => 0) = _
      rw [em, ex]
    refine ⟨_, rfl, x.o, dx, _, rfl, ho, rfl, _, rfl, _, rfl, (by show 3 ≤ sizeLine; decide), fun t ht => ?_⟩
    have s1 := Same.new (o := .tup [.int 0, iV c, iV (R.ms[c].at_ (r.states.getD r.group.length 0 % LwBits.ALL))]) ht
    refine ⟨x, R, ws, r, [], wr, .sym c, t, rfl, hA.same s1, by simp, by show c < r.models.length; rw [em]; exact hc, by rw [eg]; exact upd_same, by rw [em], fun r' hn H' wr' hA' kp => ?_, fun hn H' kp => k2 hn H' fun d o e n => kp d o (s1 _ _ e) n⟩
    refine ⟨_, rfl, ?_⟩
    have q := k1 _ r' hn H' wr' hA' fun d o e n => kp d o (s1 _ _ e) n
    rw [eg] at q
    exact q
def sp_Attempt_read_bits (T : Txt K mg) : Sp := fun vs H Q E => ∃ (x : AA) (R : RowS) (ws : List Nat) (r : Reader) (pcs : List Item) (wr bits : Nat), vs = [.ref x.o, iV bits] ∧ AttAt T H x R ws r pcs wr ∧ pcs.length ≤ 1 ∧ bits ≤ 60 ∧
  (∀ v r', Coder.plainRead 8 bits r = some (v, r') → ∀ H' pcs' wr', AttAt T H' x R ws r' pcs' wr' → pcs'.length ≤ 9 → Kp x.mut H H' → Q (iV v) H') ∧ (Coder.plainRead 8 bits r = none → ∀ H', Kp x.mut H H' → E (.ref T.C_WordLacks) none H')
theorem ok_Attempt_read_bits (T : Txt K mg) : FnOk P w K mg base (CXw P w T.C_WordLacks) 4 T.f_Attempt_read_bits T.d_Attempt_read_bits ["self", "bits"] (sp_Attempt_read_bits T) := by
  refine Fun.okw T.F_Attempt_read_bits sc_Attempt_read_bits (fun vs H Q E h => ?_) (fun cdv A outer s H vs Q E hr h => ?_)
  · obtain ⟨x, R, ws, r, pcs, wr, bits, rfl, _⟩ := h; rfl
  · obtain ⟨x, R, ws, r, pcs, wr, bits, rfl, hA, hp1, hb60, k1, k2⟩ := h
    refine ⟨_, (pss_cons (ps_set (i := 2) sc_Attempt_read_bits.nd rfl (Or.inl rfl) pe_int) (pss_cons (ps_set (i := 3) sc_Attempt_read_bits.nd rfl (Or.inl rfl) pe_int) (pss_cons (ps_while PassesOwn.leaving (pt_cmpR op_lt (pv 3) (pv 1) (nomark _)) (pss_cons (ps_set (i := 4) sc_Attempt_read_bits.nd rfl (Or.inl rfl) (pe_callB (call_min2 rfl) (by rfl) T.bl_min PyProof.Rows.boot_min (pa_cons (pe_op op_sub (pv 1) (pv 3)) (pa_cons (pe_gi rfl T.g_PIECE_BITS) pa_nil)))) (pss_cons (ps_set (i := 5) sc_Attempt_read_bits.nd rfl (Or.inl rfl) (pe_op op_shr (pe_meth0 (pv 0) T.cl_Attempt T.me_Attempt_spot (ok_Attempt_spot T) (hr.mono (by decide)) T.b_Attempt_spot .nil pass0) (pe_op op_sub (pe_gi rfl T.g_PIECE_BITS) (pv 4)))) (pss_cons (ps_expr (pe_meth (pv 0) T.cl_Attempt T.me_Attempt_take_out (ok_Attempt_take_out T) (hr.mono (by decide)) T.b_Attempt_take_out .nil passw (pa_cons (pe_tup (pa_cons (pe_gi rfl T.g_PLAIN) (pa_cons (pv 4) (pa_cons (pv 5) pa_nil)))) pa_nil))) (pss_cons (ps_set (i := 2) sc_Attempt_read_bits.nd rfl (Or.inl rfl) (pe_op op_add (pv 2) (pe_op op_shl (pv 5) (pv 3)))) (pss_one (ps_set (i := 3) sc_Attempt_read_bits.nd rfl (Or.inl rfl) (pe_op op_add (pv 3) (pv 4))))))))) (pss_one (ps_ret (pv 2)))))), ?_⟩
    refine while_by (fun σ H' => ∃ (v kn f : Nat) (rr : Reader) (pc : List Item) (wr' : Nat) (v4 v5 : Option V), σ = [some (.ref x.o), some (iV bits), some (iV v), some (iV kn), v4, v5] ∧ kn ≤ bits ∧ bits - kn ≤ 15 * f ∧ pc.length + f ≤ 9 ∧ AttAt T H' x R ws rr pc wr' ∧ Kp x.mut H H' ∧
        Coder.plainRead 8 bits r = (Coder.plainRead f (bits - kn) rr).map fun y => (v + 2 ^ kn * y.1, y.2))
      (fun σ _ => match σ with | [_, some (.int b), _, some (.int c), _, _] => (b - c).toNat | _ => 0) ⟨0, 0, 8, r, pcs, wr, none, none, rfl, by omega, by omega, by omega, hA, Kp.refl _ _, ?_⟩ ?_ ?_
    · rw [Nat.sub_zero]
      cases Coder.plainRead 8 bits r with
      | none => rfl
      | some y => simp
    · rintro σ H1 ⟨v, kn, f, rr, pc, wr', v4, v5, rfl, hkn, hf, hpf, hA1, kp1, heq⟩
      refine ⟨_, rfl, _, rfl, _, _, rfl, rfl, _, rfl, iteD (fun h => ?_) (fun h => ?_)⟩
      · obtain ⟨f, rfl⟩ : ∃ g, f = g + 1 := ⟨f - 1, by omega⟩
        have hb : 0 < bits - kn := by omega
        obtain ⟨z, hz⟩ : ∃ z, z = min 15 (bits - kn) := ⟨_, rfl⟩
        rw [plainRead_turn rr hb, ← hz] at heq
        have hz1 : 1 ≤ z ∧ z ≤ 15 := by omega
        obtain ⟨dx, ho⟩ := hA1.ob
        refine ⟨_, rfl, _, rfl, _, _, rfl, rfl, _, _, rfl, ?_⟩
        have hm : (if (15 : Int) < (bits : Int) - (kn : Int) then (15 : Int) else (bits : Int) - (kn : Int)) = ((z : Nat) : Int) := by split <;> omega
        rw [hm]
        refine ⟨_, rfl, x.o, dx, _, rfl, ho, rfl, x, R, ws, rr, pc, wr', rfl, hA1, _, rfl, _, _, rfl, rfl, _, _, rfl, rfl, (by show (0 : Int) ≤ _; omega), ?_⟩
        obtain ⟨pt, hpt⟩ : ∃ pt, pt = rr.states.getD rr.group.length 0 % LwBits.ALL / 2 ^ (15 - z) := ⟨_, rfl⟩
        have ept : ((rr.states.getD rr.group.length 0 % LwBits.ALL : Nat) : Int) / 2 ^ (15 - ((z : Nat) : Int)).toNat = ((pt : Nat) : Int) := by
          have e : (15 - ((z : Nat) : Int)) = ((15 - z : Nat) : Int) := by omega
          rw [e, shr_nat, hpt]
        show gName 5 (V.int (((rr.states.getD rr.group.length 0 % LwBits.ALL : Nat) : Int) / 2 ^ (15 - ((z : Nat) : Int)).toNat)) _ _ _
        rw [ept]
        have eg : gotI rr (.plain z) = .plain z pt := by rw [hpt]; rfl
        have hptlt : pt < 2 ^ 15 := by
          have h1 : rr.states.getD rr.group.length 0 % LwBits.ALL < 2 ^ 15 := Nat.mod_lt _ (by decide)
          rw [hpt]
          exact Nat.lt_of_le_of_lt (Nat.div_le_self _ _) h1
        refine ⟨_, rfl, x.o, dx, _, rfl, ho, rfl, _, rfl, _, rfl, (by show 3 ≤ sizeLine; decide), fun t ht => ?_⟩
        have s1 := Same.new (o := .tup [.int 1, iV z, iV pt]) ht
        refine ⟨x, R, ws, rr, pc, wr', .plain z, t, rfl, hA1.same s1, by omega, hz1, by rw [eg]; exact upd_same, by rw [eg]; rfl, fun r' hn H' wr2 hA' kp => ?_, fun hn H' kp => ?_⟩
        · rw [hn] at heq
          have heq : Coder.plainRead 8 bits r = ((Coder.plainRead f (bits - kn - z) r').map fun y => (Coder.valueOf (gotI rr (.plain z)) + 2 ^ z * y.1, y.2)).map fun y => (v + 2 ^ kn * y.1, y.2) := heq
          refine ⟨_, rfl, _, rfl, _, rfl, _, _, rfl, rfl, ⟨by omega, by omega, by omega⟩, _, _, rfl, rfl, ?_⟩
          refine ⟨_, rfl, _, rfl, _, _, rfl, rfl, ?_⟩
          have ev : (v : Int) + (pt : Int) * 2 ^ ((kn : Nat) : Int).toNat = ((v + pt * 2 ^ kn : Nat) : Int) := by
            rw [Int.toNat_natCast, two_pow_cast, Int.natCast_add, Int.natCast_mul]
          have ek : (kn : Int) + (z : Int) = ((kn + z : Nat) : Int) := by omega
          refine ⟨⟨v + pt * 2 ^ kn, kn + z, f, r', pc ++ [gotI rr (.plain z)], wr2, some (iV z), some (iV pt), ?_, by omega, by omega, by simp; omega, hA', fun d o e n => kp d o (s1 _ _ (kp1 _ _ e n)) n, ?_⟩, ?_⟩
          · show [some (V.ref x.o), some (iV bits), some (V.int ((v : Int) + (pt : Int) * 2 ^ ((kn : Nat) : Int).toNat)), some (V.int ((kn : Int) + (z : Int))), _, _] = _
            rw [ev, ek]
          · rw [heq, eg, Nat.sub_sub]
            cases Coder.plainRead f (bits - (kn + z)) r' with
            | none => rfl
            | some y =>
              show some (v + 2 ^ kn * (pt + 2 ^ z * y.1), y.2) = some (v + pt * 2 ^ kn + 2 ^ (kn + z) * y.1, y.2)
              rw [Nat.mul_add, Nat.pow_add, Nat.mul_assoc, Nat.mul_comm pt, Nat.add_assoc]
          · show ((bits : Int) - ((kn : Int) + (z : Int))).toNat < ((bits : Int) - (kn : Int)).toNat
            omega
        · rw [hn] at heq
          exact k2 heq H' fun d o e n => kp d o (s1 _ _ (kp1 _ _ e n)) n
      · have e : bits - kn = 0 := by omega
        rw [e, plainRead_zero] at heq
        refine ⟨_, rfl, ?_⟩
        exact k1 v rr (by rw [heq]; simp) H1 pc wr' hA1 (by omega) kp1
    · rintro σ H1 Q1 Q2 h ⟨v, e, v', e', i, j, e1, e2, b, e3, q⟩
      exact ⟨v, e, v', e', i, j, e1, e2, b, e3, h _ _ q⟩
def sp_Attempt_read_item (T : Txt K mg) : Sp := fun vs H Q E => ∃ (x : AA) (R : RowS) (ws : List Nat) (r : Reader) (wr what of : Nat), vs = [.ref x.o, iV what, iV of] ∧ AttAt T H x R ws r [] wr ∧ Coder.wantOk R.ms what of = true ∧
  (∀ v r', Coder.readOne r what of = some (v, r') → ∀ H' pcs' wr', AttAt T H' x R ws r' pcs' wr' → pcs'.length ≤ 9 → Kp x.mut H H' → Q (iV v) H') ∧ (Coder.readOne r what of = none → ∀ H', Kp x.mut H H' → E (.ref T.C_WordLacks) none H')
theorem want_num {ms : Models} {what of : Nat} (h : Coder.wantOk ms what of = true) (h0 : ¬ what = 0) (h1 : ¬ what = 1) : what = 2 ∧ ∃ m, ms[of]? = some m ∧ m.n ≤ 52 := by
  unfold Coder.wantOk at h
  rw [if_neg h0, if_neg h1, Bool.and_eq_true] at h
  obtain ⟨ha, hb⟩ := h
  refine ⟨by simpa using ha, ?_⟩
  cases e : ms[of]? with
  | none => rw [e] at hb; cases hb
  | some m =>
    rw [e] at hb
    exact ⟨m, rfl, of_decide_eq_true hb⟩
theorem ok_Attempt_read_item (T : Txt K mg) : FnOk P w K mg base (CXw P w T.C_WordLacks) 5 T.f_Attempt_read_item T.d_Attempt_read_item ["self", "what", "of"] (sp_Attempt_read_item T) := by
  refine Fun.okw T.F_Attempt_read_item sc_Attempt_read_item (fun vs H Q E h => ?_) (fun cdv A outer s H vs Q E hr h => ?_)
  · obtain ⟨x, R, ws, r, wr, what, of, rfl, _⟩ := h; rfl
  · obtain ⟨x, R, ws, r, wr, what, of, rfl, hA, hw, k1, k2⟩ := h
    refine ⟨_, (pss_cons (ps_if (pt_cmpR op_eq (pv 1) (pe_gi rfl T.g_PLAIN) (nomark _)) (pss_one (ps_ret (pe_meth (pv 0) T.cl_Attempt T.me_Attempt_read_bits (ok_Attempt_read_bits T) (hr.mono (by decide)) T.b_Attempt_read_bits .nil passw (pa_cons (pv 2) pa_nil)))) pss_nil) (pss_cons (ps_set (i := 3) sc_Attempt_read_item.nd rfl (Or.inl rfl) (pe_meth (pv 0) T.cl_Attempt T.me_Attempt_read_symbol (ok_Attempt_read_symbol T) (hr.mono (by decide)) T.b_Attempt_read_symbol .nil passw (pa_cons (pv 2) pa_nil))) (pss_cons (ps_if (pt_cmpR op_eq (pv 1) (pe_gi rfl T.g_NUMBER) (nomark _)) (pss_one (ps_ret (pe_op op_sub (pe_op op_add (pe_op op_shl pe_int (pv 3)) (pe_meth (pv 0) T.cl_Attempt T.me_Attempt_read_bits (ok_Attempt_read_bits T) (hr.mono (by decide)) T.b_Attempt_read_bits .nil passw (pa_cons (pv 3) pa_nil))) pe_int))) pss_nil) (pss_one (ps_ret (pv 3)))))), ?_⟩
    obtain ⟨dx, ho⟩ := hA.ob
    have em : r.models = R.ms := (Prod.mk.inj hA.rm).1
    unfold Coder.readOne at k1 k2
    refine ⟨_, rfl, rfl, _, rfl, iteI (fun h => ?_) (fun h => ?_)⟩
    · have e : what = 1 := by omega
      subst e
      rw [if_neg (by decide), if_pos rfl] at k1 k2
      have hb := want_bits hw
      exact ⟨_, rfl, x.o, dx, _, rfl, ho, rfl, _, rfl, x, R, ws, r, [], wr, of, rfl, hA, by simp, by omega, k1, k2⟩
    · have n1 : ¬ what = 1 := by omega
      have hlt : of < R.ms.length := want_lt hw n1
      refine ⟨_, rfl, x.o, dx, _, rfl, ho, rfl, _, rfl, x, R, ws, r, wr, of, rfl, hA, hlt, fun it r' hn H' wr' hA' kp => ?_, fun hn H' kp => ?_⟩
      · refine ⟨_, rfl, rfl, _, rfl, iteI (fun h2 => ?_) (fun h2 => ?_)⟩
        · have e : what = 2 := by omega
          subst e
          rw [if_neg (by decide), if_neg (by decide), hn] at k1 k2
          have k1 : ∀ v r'', ((Coder.plainRead 8 (Coder.valueOf it) r').map fun y => (2 ^ Coder.valueOf it + y.1 - 1, y.2)) = some (v, r'') → _ := k1
          have k2 : ((Coder.plainRead 8 (Coder.valueOf it) r').map fun y => (2 ^ Coder.valueOf it + y.1 - 1, y.2)) = none → _ := k2
          obtain ⟨_, m, em2, hm52⟩ := want_num hw (by decide) (by decide)
          have hit := next_got hn
          have hc : Coder.valueOf it < 52 := by
            have q := (gotI_ok (r := r) (w := .sym of) hA.mok (by show of < r.models.length; rw [em]; exact hlt)).1
            rw [← hit, em] at q
            have e3 : it = .sym of (Coder.valueOf it) := by rw [hit]; rfl
            rw [e3] at q
            obtain ⟨n, e4, h5⟩ := q
            rw [get_shp em2] at e4
            cases e4
            omega
          obtain ⟨dx', ho'⟩ := hA'.ob
          refine ⟨_, rfl, _, _, rfl, rfl, ⟨by omega, by omega, by decide⟩, _, rfl, x.o, dx', _, rfl, ho', rfl, _, rfl, x, R, ws, r', [it], wr', Coder.valueOf it, rfl, hA', by simp, by omega, fun v r2 hp H2 pc2 wr2 hA2 hl2 kp2 => ?_, fun hp H2 kp2 => ?_⟩
          · refine ⟨_, _, rfl, rfl, _, _, rfl, rfl, ?_⟩
            have e5 : (1 * 2 ^ ((Coder.valueOf it : Nat) : Int).toNat : Int) + (v : Int) - 1 = ((2 ^ Coder.valueOf it + v - 1 : Nat) : Int) := by
              rw [Int.toNat_natCast, Int.one_mul, two_pow_cast]
              have := Nat.two_pow_pos (Coder.valueOf it)
              omega
            show Q (V.int ((1 * 2 ^ ((Coder.valueOf it : Nat) : Int).toNat : Int) + (v : Int) - 1)) H2
            rw [e5]
            exact k1 _ r2 (by rw [hp]; rfl) H2 pc2 wr2 hA2 hl2 (kp.trans kp2)
          · exact k2 (by rw [hp]; rfl) H2 (kp.trans kp2)
        · have n2 : ¬ what = 2 := by omega
          have e : what = 0 := by
            by_cases z : what = 0
            · exact z
            · exact absurd (want_num hw z n1).1 n2
          subst e
          rw [if_pos rfl, hn] at k1
          exact ⟨_, rfl, k1 _ r' rfl H' [it] wr' hA' (by simp) kp⟩
      · by_cases z : what = 0
        · subst z
          rw [if_pos rfl, hn] at k2
          exact k2 rfl H' kp
        · rw [if_neg z, if_neg n1, hn] at k2
          exact k2 rfl H' kp
end FB
end
section
namespace FB
open PySem PySem.Spec PyProof.Rows L2 FM
open LwBits (Item Models Want)
open LwBits (Reader)
variable {P : Program} {w : World} {K : PySem.W.Frag} {mg : Str → Option Value} {base : Heap}
structure RA where
  o : Addr
  stl : Addr
  wd : Addr
  a : Addr
  l : Addr
  wl : Addr
  as : List Addr
  bs : List Addr
def RA.foot (x : RA) : List Addr := x.a :: x.l :: x.wl :: (x.as ++ x.bs)
def RA.all (x : RA) : List Addr := x.o :: x.stl :: x.wd :: x.foot
def rdf (a stl wd : Addr) (wr : Nat) (st : Bool) : List (Str × V) := [("row", .ref a), ("states", .ref stl), ("words", .ref wd), ("words_read", iV wr), ("stopped", .bl st)]
section
variable (a stl wd : Addr) (wr : Nat) (st : Bool)
theorem rdf_row : (rdf a stl wd wr st).lookup ("row" : Str) = some (.ref a) := rfl
theorem rdf_states : (rdf a stl wd wr st).lookup ("states" : Str) = some (.ref stl) := rfl
theorem rdf_words : (rdf a stl wd wr st).lookup ("words" : Str) = some (.ref wd) := rfl
theorem rdf_words_read : (rdf a stl wd wr st).lookup ("words_read" : Str) = some (iV wr) := rfl
theorem rdf_stopped : (rdf a stl wd wr st).lookup ("stopped" : Str) = some (.bl st) := rfl
end
structure ReaderAt (T : Txt K mg) (H : Hp) (x : RA) (tot : Nat) (ws : List Nat) (wr : Nat) (r : Reader) (st : Bool) : Prop where
  ob : ∃ dx, H x.o = some (.ins T.C_Reader dx (rdf x.a x.stl x.wd wr st))
  row : RowAt T H x.a x.l x.wl x.as x.bs ⟨r.lanes, tot, r.models, r.group⟩
  sts : H x.stl = some (.lst (nV r.states))
  wds : H x.wd = some (.lst (nV ws))
  nd : x.all.Nodup
  rw_ : r.words = ws.drop wr
  wle : wr ≤ ws.length
  sl : r.states.length = r.lanes
theorem ReaderAt.kp {T : Txt K mg} {H H' : Hp} {x : RA} {tot : Nat} {ws : List Nat} {wr : Nat} {r : Reader} {st : Bool} {S : List Addr} (h : ReaderAt T H x tot ws wr r st) (kp : Kp S H H') (d : ∀ y ∈ x.all, y ∉ S) (nt : ∀ y ∈ S, ∀ vs, H y ≠ some (.tup vs)) : ReaderAt T H' x tot ws wr r st := by
  obtain ⟨dx, ho⟩ := h.ob
  exact ⟨⟨dx, kp _ _ ho (d _ (by simp [RA.all]))⟩, h.row.kp kp (fun y hy => d y (by simp only [RA.all, List.mem_cons]; exact .inr (.inr (.inr hy)))) nt, kp _ _ h.sts (d _ (by simp [RA.all])), kp _ _ h.wds (d _ (by simp [RA.all])), h.nd, h.rw_, h.wle, h.sl⟩
theorem ReaderAt.same {T : Txt K mg} {H H' : Hp} {x : RA} {tot : Nat} {ws : List Nat} {wr : Nat} {r : Reader} {st : Bool} (h : ReaderAt T H x tot ws wr r st) (s : Same H H') : ReaderAt T H' x tot ws wr r st :=
  h.kp (S := []) (fun c o e _ => s c o e) (fun _ _ z => by cases z) (fun _ z => by cases z)
theorem ReaderAt.tr {T : Txt K mg} {H : Hp} {x : RA} {tot : Nat} {ws : List Nat} {wr : Nat} {r : Reader} {st : Bool} (h : ReaderAt T H x tot ws wr r st) : ∀ y ∈ x.all, H y ≠ none ∧ ∀ vs, H y ≠ some (.tup vs) := by
  obtain ⟨dx, ho⟩ := h.ob
  intro y hy
  rcases List.mem_cons.mp hy with z | hy
  · rw [z, ho]; exact ⟨by simp, fun vs e => by cases e⟩
  rcases List.mem_cons.mp hy with z | hy
  · rw [z, h.sts]; exact ⟨by simp, fun vs e => by cases e⟩
  rcases List.mem_cons.mp hy with z | hy
  · rw [z, h.wds]; exact ⟨by simp, fun vs e => by cases e⟩
  · exact h.row.tr y hy
def sp_Attempt_init (T : Txt K mg) : Sp := fun vs H Q _ => ∃ (p dx : Addr) (x : RA) (tot : Nat) (ws : List Nat) (wr : Nat) (r : Reader) (st : Bool), vs = [.ref p, .ref x.o] ∧ H p = some (.ins T.C_Attempt dx []) ∧ ReaderAt T H x tot ws wr r st ∧ p ∉ x.all ∧
  ∀ (H' : Hp) (stl pl : Addr), AttAt T H' ⟨p, stl, pl, x.wd, x.a, x.l, x.wl, x.as, x.bs⟩ ⟨r.lanes, tot, r.models, r.group⟩ ws r [] wr → H stl = none → H pl = none → Kp [p] H H' → Q .non H'
theorem ok_Attempt___init__ (T : Txt K mg) : FnOk P w K mg base CX0 1 T.f_Attempt___init__ T.d_Attempt___init__ ["self", "reader"] (sp_Attempt_init T) := by
  refine T.F_Attempt___init__.ok sc_Attempt___init__ (fun vs H Q E h => ?_) (fun cdv A outer s H vs Q E hr h => ?_)
  · obtain ⟨p, dx, x, tot, ws, wr, r, st, rfl, _⟩ := h; rfl
  · obtain ⟨p, dx, x, tot, ws, wr, r, st, rfl, hp, hR, np, k⟩ := h
    refine ⟨_, (pss_cons (ps_fld (pv 0) (pe_fld (pv 1) rfl) rfl) (pss_cons (ps_fld (pv 0) (pe_callTy call_list_of (by rfl) T.bl_list PyProof.Rows.boot_list (pa_cons (pe_fld (pv 1) rfl) pa_nil)) rfl) (pss_cons (ps_fld (pv 0) (pe_fld (pv 1) rfl) rfl) (pss_cons (ps_fld (pv 0) (pe_fld (pv 1) rfl) rfl) (pss_one (ps_fld (pv 0) (pe_lst pa_nil) rfl)))))), ?_⟩
    obtain ⟨dr, ho⟩ := hR.ob
    have npo : x.o ≠ p := fun z => np (by rw [← z]; simp [RA.all])
    have npa : ∀ y ∈ x.all, y ≠ p := fun y hy z => np (z ▸ hy)
    have hsl : ∀ u, (upd H p u) x.stl = some (.lst (nV r.states)) := fun u => by rw [upd_ne (npa _ (by simp [RA.all]))]; exact hR.sts
    have hob : ∀ u, (upd H p u) x.o = some (.ins T.C_Reader dr (rdf x.a x.stl x.wd wr st)) := fun u => by rw [upd_ne npo]; exact ho
    refine ⟨_, rfl, x.o, _, dr, _, _, rfl, ho, T.cl_Reader, T.n_Reader_row, rdf_row _ _ _ _ _, _, rfl, p, _, dx, _, rfl, hp, T.cl_Attempt, T.n_Attempt_row, (by show 0 < 1000; decide), ?_⟩
    refine ⟨_, rfl, x.o, _, dr, _, _, rfl, hob _, T.cl_Reader, T.n_Reader_states, rdf_states _ _ _ _ _, x.stl, _, rfl, .inl (SqL.of (hsl _)), fun S hS => ?_⟩
    have nSp : S ≠ p := fun z => by rw [z, upd_same] at hS; cases hS
    have hSn : H S = none := by rw [upd_ne nSp] at hS; exact hS
    have nSx : ∀ y ∈ x.all, y ≠ S := fun y hy z => (hR.tr y hy).1 (z ▸ hSn)
    have hob2 : ∀ u v w', (upd (upd (upd H p u) S v) p w') x.o = some (.ins T.C_Reader dr (rdf x.a x.stl x.wd wr st)) := fun u v w' => by rw [upd_ne npo, upd_ne (nSx _ (by simp [RA.all])), upd_ne npo]; exact ho
    refine ⟨_, rfl, p, _, dx, _, rfl, (by rw [upd_ne (Ne.symm nSp), upd_same]), T.cl_Attempt, T.n_Attempt_states, (by show 1 < 1000; decide), ?_⟩
    refine ⟨_, rfl, x.o, _, dr, _, _, rfl, hob2 _ _ _, T.cl_Reader, T.n_Reader_words, rdf_words _ _ _ _ _, _, rfl, p, _, dx, _, rfl, upd_same, T.cl_Attempt, T.n_Attempt_words, (by show 2 < 1000; decide), ?_⟩
    rw [upd_upd]
    refine ⟨_, rfl, x.o, _, dr, _, _, rfl, hob2 _ _ _, T.cl_Reader, T.n_Reader_words_read, rdf_words_read _ _ _ _ _, _, rfl, p, _, dx, _, rfl, upd_same, T.cl_Attempt, T.n_Attempt_words_read, (by show 3 < 1000; decide), ?_⟩
    rw [upd_upd]
    refine ⟨Nat.zero_le _, fun D hD => ?_⟩
    have nDp : D ≠ p := fun z => by rw [z, upd_same] at hD; cases hD
    have nDS : D ≠ S := fun z => by rw [z, upd_ne nSp, upd_same] at hD; cases hD
    have hDn : H D = none := by rw [upd_ne nDp, upd_ne nDS, upd_ne nDp] at hD; exact hD
    have nDx : ∀ y ∈ x.all, y ≠ D := fun y hy z => (hR.tr y hy).1 (z ▸ hDn)
    refine ⟨_, rfl, p, _, dx, _, rfl, (by rw [upd_ne (Ne.symm nDp), upd_same]), T.cl_Attempt, T.n_Attempt_pieces, (by show 4 < 1000; decide), ?_⟩
    have kpf : Kp [p] H (upd (upd (upd (upd (upd H p (.ins T.C_Attempt dx [("row", .ref x.a)])) S (.lst (nV r.states))) p (.ins T.C_Attempt dx [("row", .ref x.a), ("states", .ref S), ("words", .ref x.wd), ("words_read", iV wr)])) D (.lst [])) p (.ins T.C_Attempt dx (af x.a S x.wd wr D))) := fun c o e n => by
      have n : c ≠ p := by simpa using n
      rw [upd_ne n, upd_ne (ne_of_none e hDn), upd_ne n, upd_ne (ne_of_none e hSn), upd_ne n]; exact e
    have nt : ∀ y ∈ [p], ∀ vs, H y ≠ some (.tup vs) := fun y hy vs e => by
      have hy : y = p := by simpa using hy
      rw [hy, hp] at e; cases e
    refine k _ S D ⟨⟨dx, upd_same⟩, hR.row.kp kpf (fun y hy => by simpa using npa y (by simp only [RA.all, List.mem_cons]; exact .inr (.inr (.inr hy)))) nt, ?_, kpf _ _ hR.wds (by simpa using npa x.wd (by simp [RA.all])), ⟨[], ?_, rfl⟩, ?_, hR.rw_, hR.wle, rfl, rfl, hR.sl, (fun it hi => by cases hi)⟩ hSn hDn kpf
    · show (upd _ p _) S = _
      rw [upd_ne nSp, upd_ne (Ne.symm nDS), upd_ne nSp, upd_same]
    · show (upd _ p _) D = _
      rw [upd_ne nDp, upd_same]; rfl
    · have nd := hR.nd
      have h1 := (List.nodup_cons.mp (List.nodup_cons.mp nd).2).2
      refine List.nodup_cons.mpr ⟨fun z => ?_, List.nodup_cons.mpr ⟨fun z => ?_, List.nodup_cons.mpr ⟨fun z => ?_, h1⟩⟩⟩
      · rcases List.mem_cons.mp z with z | z
        · exact nSp z.symm
        rcases List.mem_cons.mp z with z | z
        · exact nDp z.symm
        · exact npa p (by simp only [RA.all, List.mem_cons]; exact .inr (.inr (List.mem_cons.mp z))) rfl
      · rcases List.mem_cons.mp z with z | z
        · exact nDS z.symm
        · exact nSx S (by simp only [RA.all, List.mem_cons]; exact .inr (.inr (List.mem_cons.mp z))) rfl
      · exact nDx D (by simp only [RA.all, List.mem_cons]; exact .inr (.inr (List.mem_cons.mp z))) rfl
def sp_Reader_init (T : Txt K mg) : Sp := fun vs H Q _ => ∃ (p dx q q2 : Addr) (n : Nat) (ns os : List Nat) (ms : Models) (c : Nat), vs = [.ref p, iV n, .ref q, .ref q2] ∧ H p = some (.ins T.C_Reader dx []) ∧ SqL K H q (nV ns) ∧ ns.length ≤ 32 ∧ Coder.modelsIn ns = some ms ∧ 0 < n ∧ n ≤ 16 ∧
  SqL K H q2 (nV os) ∧ os.length = 4 * n + 2 * c ∧ c ≤ 5000 ∧
  ∀ (H' : Hp) (x : RA), x.o = p → ReaderAt T H' x 0 (numsN (os.drop (4 * n)) 2 c) 0 ⟨n, numsN os 4 n, numsN (os.drop (4 * n)) 2 c, ms, []⟩ false → (∀ y ∈ x.all, y = p ∨ H y = none) → Kp [p] H H' → Q .non H'
theorem ok_Reader___init__ (T : Txt K mg) : FnOk P w K mg base CX0 6 T.f_Reader___init__ T.d_Reader___init__ ["self", "lanes", "numbers", "octets"] (sp_Reader_init T) := by
  refine T.F_Reader___init__.ok sc_Reader___init__ (fun vs H Q E h => ?_) (fun cdv A outer s H vs Q E hr h => ?_)
  · obtain ⟨p, dx, q, q2, n, ns, os, ms, c, rfl, _⟩ := h; rfl
  · obtain ⟨p, dx, q, q2, n, ns, os, ms, c, rfl, hp, hq, hl, hms, h0, h16, hq2, hol, hc, k⟩ := h
    refine ⟨_, (pss_cons (ps_fld (pv 0) (pe_make T.mk_Row (ok_Row___init__ T) (hr.mono (by decide)) rfl T.mc_Row T.b_Row___init__ .nil pass0 (pa_cons (pv 1) (pa_cons (pv 2) pa_nil))) rfl) (pss_cons (ps_fld (pv 0) (pe_call (ok_states_in T) (hr.mono (by decide)) rfl T.m_states_in T.F_states_in.kp T.b_states_in .nil pass0 (pa_cons (pv 3) (pa_cons (pv 1) pa_nil))) rfl) (pss_cons (ps_fld (pv 0) (pe_call (ok_words_in T) (hr.mono (by decide)) rfl T.m_words_in T.F_words_in.kp T.b_words_in .nil pass0 (pa_cons (pv 3) (pa_cons (pv 1) pa_nil))) rfl) (pss_cons (ps_fld (pv 0) pe_int rfl) (pss_one (ps_fld (pv 0) pe_bl rfl)))))), ?_⟩
    refine ⟨_, rfl, _, rfl, fun y dr hy hdr hne => ⟨y, dr, q, n, ns, ms, rfl, upd_same, ?_, hl, hms, h0, h16, fun H2 l wl as bs hR fr kp => ⟨rfl, ?_⟩⟩⟩
    · refine sql_kp hq (S := [y, dr]) (fun c o e nn => ?_) fun u e _ z => ?_
      · have nn : c ≠ y ∧ c ≠ dr := by simpa using nn
        rw [upd_ne nn.1, upd_ne nn.2]; exact e
      · have z : q = y ∨ q = dr := by simpa using z
        rcases z with z | z
        · rw [z, hy] at e; cases e
        · rw [z, hdr] at e; cases e
    have s2 : Same H H2 := Same.made hy hdr fun b o e nn => kp b o e (by simpa using nn)
    have fr2 : ∀ z ∈ y :: l :: wl :: (as ++ bs), H z = none := fun z hz => by
      rcases List.mem_cons.mp hz with q' | hz
      · rw [q']; exact hy
      · have := fr z hz
        rw [upd_ne (fun z => by rw [z, upd_same] at this; cases this)] at this
        rw [upd_ne (fun z => by rw [z, upd_same] at this; cases this)] at this
        exact this
    have hp2 := s2 _ _ hp
    have np : ∀ z ∈ y :: l :: wl :: (as ++ bs), z ≠ p := fun z hz e => by have := fr2 z hz; rw [e, hp] at this; cases this
    refine ⟨_, rfl, p, _, dx, _, rfl, hp2, T.cl_Reader, T.n_Reader_row, (by show 0 < 1000; decide), ?_⟩
    have kq : ∀ {H1 : Hp}, Kp [p] H H1 → SqL K H1 q2 (nV os) := fun kp1 => sql_kp hq2 kp1 fun u e hu z => by
      have z : q2 = p := by simpa using z
      rw [z, hp] at e
      cases e
      rcases hu with hu | ⟨o, hu⟩ <;> cases hu
    have kp3 : Kp [p] H (upd H2 p (.ins T.C_Reader dx [("row", .ref y)])) := fun c o e nn => by rw [upd_ne (by simpa using nn)]; exact s2 _ _ e
    refine ⟨_, rfl, _, rfl, q2, os, n, rfl, kq kp3, h16, by omega, fun H4 S s4 hSn hS4 => ?_⟩
    have hp4 := s4 p _ upd_same
    refine ⟨_, rfl, p, _, dx, _, rfl, hp4, T.cl_Reader, T.n_Reader_states, (by show 1 < 1000; decide), ?_⟩
    have kp5 : Kp [p] H (upd H4 p (.ins T.C_Reader dx [("row", .ref y), ("states", .ref S)])) := fun c o e nn => by rw [upd_ne (by simpa using nn)]; exact s4 _ _ (kp3 _ _ e nn)
    refine ⟨_, rfl, _, rfl, q2, os, n, c, rfl, kq kp5, h16, hc, hol, fun H6 W s6 hWn hW6 => ?_⟩
    have hp6 := s6 p _ upd_same
    refine ⟨_, rfl, p, _, dx, _, rfl, hp6, T.cl_Reader, T.n_Reader_words, (by show 2 < 1000; decide), ?_⟩
    refine ⟨_, rfl, p, _, dx, _, rfl, upd_same, T.cl_Reader, T.n_Reader_words_read, (by show 3 < 1000; decide), ?_⟩
    rw [upd_upd]
    refine ⟨_, rfl, p, _, dx, _, rfl, upd_same, T.cl_Reader, T.n_Reader_stopped, (by show 4 < 1000; decide), ?_⟩
    rw [upd_upd]
    have nSp : S ≠ p := fun z => by rw [z, upd_same] at hSn; cases hSn
    have nWp : W ≠ p := fun z => by rw [z, upd_same] at hWn; cases hWn
    have hS5 : (upd H4 p (.ins T.C_Reader dx [("row", .ref y), ("states", .ref S)])) S = some (.lst (nV (numsN os 4 n))) := by rw [upd_ne nSp]; exact hS4
    have nSW : S ≠ W := ne_of_none hS5 hWn
    have kpf : Kp [p] H6 (upd H6 p (.ins T.C_Reader dx (rdf y S W 0 false))) := Kp.upd
    have h2f : Kp [p] H2 (upd H6 p (.ins T.C_Reader dx (rdf y S W 0 false))) := fun c o e nn => by
      have nn' : c ≠ p := by simpa using nn
      rw [upd_ne nn']
      refine s6 _ _ ?_
      rw [upd_ne nn']
      refine s4 _ _ ?_
      rw [upd_ne nn']; exact e
    have hSH2 : H2 S = none := by rw [upd_ne nSp] at hSn; exact hSn
    have hWH2 : H2 W = none := by
      rw [upd_ne nWp] at hWn
      have := s4.free hWn
      rw [upd_ne nWp] at this; exact this
    have nt : ∀ z ∈ [p], ∀ vs, H2 z ≠ some (.tup vs) := fun z hz vs e => by
      have hz : z = p := by simpa using hz
      rw [hz, hp2] at e; cases e
    refine k _ ⟨p, S, W, y, l, wl, as, bs⟩ rfl ⟨⟨dx, upd_same⟩, hR.kp h2f (fun z hz => by simpa using np z hz) nt, ?_, ?_, ?_, rfl, Nat.zero_le _, ?_⟩ ?_ ?_
    · show (upd H6 p _) S = _
      rw [upd_ne nSp]
      exact s6 _ _ hS5
    · show (upd H6 p _) W = _
      rw [upd_ne nWp]; exact hW6
    · refine List.nodup_cons.mpr ⟨fun z => ?_, List.nodup_cons.mpr ⟨fun z => ?_, List.nodup_cons.mpr ⟨fun z => ?_, hR.nd⟩⟩⟩
      · rcases List.mem_cons.mp z with z | z
        · exact nSp z.symm
        rcases List.mem_cons.mp z with z | z
        · exact nWp z.symm
        · exact np p z rfl
      · rcases List.mem_cons.mp z with z | z
        · exact nSW z
        · exact (hR.tr S z).1 hSH2
      · exact (hR.tr W z).1 hWH2
    · show (numsN os 4 n).length = n
      exact numsN_len _ _ _
    · intro z hz
      rcases List.mem_cons.mp hz with z' | hz
      · exact .inl z'
      rcases List.mem_cons.mp hz with z' | hz
      · rw [z']; exact .inr (s2.free hSH2)
      rcases List.mem_cons.mp hz with z' | hz
      · rw [z']; exact .inr (s2.free hWH2)
      · exact .inr (fr2 z hz)
    · intro c o e nn
      exact h2f c o (s2 _ _ e) nn
def sp_Reader_is_at_end (T : Txt K mg) : Sp := fun vs H Q _ => ∃ (x : RA) (tot : Nat) (ws : List Nat) (wr : Nat) (r : Reader) (st : Bool), vs = [.ref x.o] ∧ ReaderAt T H x tot ws wr r st ∧ ∀ H', Same H H' → Q (.bl r.ended) H'
theorem ok_Reader_is_at_end (T : Txt K mg) : FnOk P w K mg base CX0 1 T.f_Reader_is_at_end T.d_Reader_is_at_end ["self"] (sp_Reader_is_at_end T) := by
  refine T.F_Reader_is_at_end.ok sc_Reader_is_at_end (fun vs H Q E h => ?_) (fun cdv A outer s H vs Q E hr h => ?_)
  · obtain ⟨x, tot, ws, wr, r, st, rfl, _⟩ := h; rfl
  · obtain ⟨x, tot, ws, wr, r, st, rfl, hR, k⟩ := h
    refine ⟨_, (pss_one (ps_ret (pe_and (pe_cmpR op_eq (pe_fld (pv 0) rfl) (pe_callB call_len_seq (by rfl) T.bl_len PySem.boot_len (pa_cons (pe_fld (pv 0) rfl) pa_nil)) (nomark _)) (pe_one (pe_callB (cr_all rfl) (by rfl) T.bl_all PyProof.Rows.boot_all (pa_cons (pe_lc (own := [("state", 1)]) rfl sc_Reader_is_at_end.nd (pi_list (pe_fld (pv 0) rfl)) (blkOk_by (show blkC ["self", "state"] (defScope s_Reader_is_at_end) _ _ = true by decide +kernel)) (fun _ _ _ _ _ => by exact (pg_name (i := 1) sc_Reader_is_at_end.nd rfl (Or.inl rfl))) (fun _ _ _ _ _ => by exact pts_nil) (fun _ _ _ _ _ => by exact (pe_cmpR op_eq (pv 1) (pe_gi rfl T.g_FIRST_STATE) (nomark _)))) pa_nil)))))), ?_⟩
    obtain ⟨dx, ho⟩ := hR.ob
    unfold LwBits.Reader.ended at k
    refine ⟨_, rfl, x.o, _, dx, _, _, rfl, ho, T.cl_Reader, T.n_Reader_words_read, rdf_words_read _ _ _ _ _, _, rfl, x.o, _, dx, _, _, rfl, ho, T.cl_Reader, T.n_Reader_words, rdf_words _ _ _ _ _, x.wd, _, rfl, .inl (SqL.of hR.wds), rfl, _, rfl, iteI (fun h => ?_) (fun h => ?_)⟩
    · rw [nV_len] at h
      have hw : r.words = [] := by rw [hR.rw_, List.drop_eq_nil_of_le (by omega)]
      rw [hw] at k
      refine ⟨_, rfl, x.o, _, dx, _, _, rfl, ho, T.cl_Reader, T.n_Reader_states, rdf_states _ _ _ _ _, x.stl, rfl, ⟨_, SqL.of hR.sts⟩, fun D hD => ?_⟩
      have s0 := Same.new (o := .lst []) hD
      refine lc_it0 (n := (nV r.states).length) (fun i H' => Same H H' ∧ H' D = some (.lst (((r.states.take i).map fun x => x == LwBits.LOW).map V.bl))) ⟨s0, upd_same⟩ ?_ ?_ ?_ ?_ ?_
      · rintro i H' hi ⟨sm, _⟩
        exact ⟨_, _, SqL.of (sm _ _ hR.sts), List.getElem?_eq_getElem hi⟩
      · rintro H' ⟨sm, _⟩
        exact ⟨_, SqL.of (sm _ _ hR.sts), Nat.le_refl _⟩
      · rintro i v H1 H2 hi ⟨sm, hD1⟩ ⟨rfl, hy⟩
        have e := hy _ (SqL.of (sm _ _ hR.sts))
        rw [nV_len] at hi
        rw [nV_get hi] at e
        cases e
        refine ⟨rfl, _, rfl, rfl, _, hD1, ?_, ?_, ?_⟩
        · rw [List.length_map, List.length_map, List.length_take]
          have h1 := hR.sl
          have h2 := hR.row.l16
          have h2 : r.lanes ≤ 16 := h2
          exact Nat.lt_of_le_of_lt (show _ ≤ 16 by omega) (by decide)
        · intro b o e
          rw [upd_ne (ne_of_none e hD)]; exact sm _ _ e
        · rw [upd_same, take_snoc (getD_some hi), List.map_append, List.map_append]
          congr 3
          show [V.bl (decide (V.int _ = V.int 65536))] = [V.bl _]
          congr 2
          unfold LwBits.LOW
          rw [Bool.eq_iff_iff]
          simp only [decide_eq_true_eq, V.int.injEq, beq_iff_eq]
          omega
      · rintro H1 ⟨sm, hD1⟩
        rw [nV_len, List.take_length] at hD1
        refine ⟨D, _, rfl, SqL.of hD1, ?_⟩
        have e : (r.states.map fun x => x == LwBits.LOW).all id = r.states.all fun x => x == LwBits.LOW := by rw [List.all_map]; rfl
        rw [e]
        exact k H1 sm
      · rintro v σ H1 Q1 Q2 hq1 q
        exact hq1 _ _ q
    · rw [nV_len] at h
      have hlt : wr < ws.length := by have := hR.wle; omega
      have hw : r.words.isEmpty = false := by
        rw [hR.rw_, List.drop_eq_getElem_cons hlt]; rfl
      rw [hw, Bool.false_and] at k
      exact k H (Same.refl H)
end FB
end
section
namespace FB
open PySem PySem.Spec PyProof.Rows L2 FM
open LwBits (Item Models Want)
open LwBits (Reader)
variable {P : Program} {w : World} {K : PySem.W.Frag} {mg : Str → Option Value} {base : Heap}
def RA.mut (x : RA) : List Addr := x.o :: x.a :: x.wl :: (x.as ++ x.bs)
theorem RA.mut_sub {x : RA} : ∀ y ∈ x.mut, y ∈ x.all := fun y hy => by
  rcases List.mem_cons.mp hy with z | hy
  · simp [RA.all, z]
  rcases List.mem_cons.mp hy with z | hy
  · simp [RA.all, RA.foot, z]
  rcases List.mem_cons.mp hy with z | hy
  · simp [RA.all, RA.foot, z]
  · simp only [RA.all, RA.foot, List.mem_cons]; exact .inr (.inr (.inr (.inr (.inr (.inr hy)))))
theorem goAll_row (n : Nat) : ∀ (l : List Item) (tot : Nat) (p : Models × List Item), (l.foldl RowS.go ⟨n, tot, p.1, p.2⟩) = ⟨n, tot + l.length, (goAll n p l).1, (goAll n p l).2⟩
  | [], tot, p => rfl
  | it :: l, tot, p => by
    show (l.foldl RowS.go ⟨n, tot + 1, (goOn n p it).1, (goOn n p it).2⟩) = _
    rw [goAll_row n l (tot + 1) (goOn n p it)]
    show (⟨n, tot + 1 + l.length, _, _⟩ : RowS) = ⟨n, tot + (l.length + 1), _, _⟩
    congr 1
    omega
def sp_Reader_read_whole (T : Txt K mg) : Sp := fun vs H Q E => ∃ (x : RA) (tot : Nat) (ws : List Nat) (wr : Nat) (r : Reader) (st : Bool) (what of : Nat), vs = [.ref x.o, iV what, iV of] ∧ ReaderAt T H x tot ws wr r st ∧ Coder.wantOk r.models what of = true ∧
  (∀ v r', Coder.readOne r what of = some (v, r') → ∀ (H' : Hp) (stl wl : Addr) (tot' wr' : Nat), ReaderAt T H' { x with stl := stl, wl := wl } tot' ws wr' r' st → H stl = none → (wl = x.wl ∨ H wl = none) → Kp x.mut H H' → Q (iV v) H') ∧
  (Coder.readOne r what of = none → ∀ H', Same H H' → E (.ref T.C_WordLacks) none H')
theorem ok_Reader_read_whole (T : Txt K mg) : FnOk P w K mg base (CXw P w T.C_WordLacks) 6 T.f_Reader_read_whole T.d_Reader_read_whole ["self", "what", "of"] (sp_Reader_read_whole T) := by
  refine Fun.okw T.F_Reader_read_whole sc_Reader_read_whole (fun vs H Q E h => ?_) (fun cdv A outer s H vs Q E hr h => ?_)
  · obtain ⟨x, tot, ws, wr, r, st, what, of, rfl, _⟩ := h; rfl
  · obtain ⟨x, tot, ws, wr, r, st, what, of, rfl, hR, hw, k1, k2⟩ := h
    refine ⟨_, (pss_cons (ps_set (i := 3) sc_Reader_read_whole.nd rfl (Or.inl rfl) (pe_make T.mk_Attempt (ok_Attempt___init__ T) (hr.mono (by decide)) rfl T.mc_Attempt T.b_Attempt___init__ .nil pass0 (pa_cons (pv 0) pa_nil))) (pss_cons (ps_set (i := 4) sc_Reader_read_whole.nd rfl (Or.inl rfl) (pe_meth (pv 3) T.cl_Attempt T.me_Attempt_read_item (ok_Attempt_read_item T) (hr.mono (by decide)) T.b_Attempt_read_item .nil passw (pa_cons (pv 1) (pa_cons (pv 2) pa_nil)))) (pss_cons (ps_fld (pv 0) (pe_fld (pv 3) rfl) rfl) (pss_cons (ps_fld (pv 0) (pe_fld (pv 3) rfl) rfl) (pss_cons (ps_for PassesOwn.leaving rfl (pi_list (pe_fld (pv 3) rfl)) (pg_name (i := 5) sc_Reader_read_whole.nd rfl (Or.inl rfl)) (pss_one (ps_expr (pe_meth (pe_fld (pv 0) rfl) T.cl_Row T.me_Row_go_by (ok_Row_go_by T) (hr.mono (by decide)) T.b_Row_go_by .nil pass0 (pa_cons (pv 5) pa_nil))))) (pss_one (ps_ret (pv 4)))))))), ?_⟩
    refine ⟨_, rfl, fun p dp hp hdp hne => ?_⟩
    have s0 : Same H (upd (upd H dp (.own p)) p (.ins T.C_Attempt dp [])) := fun c o e => by
      rw [upd_ne (ne_of_none e hp), upd_ne (ne_of_none e hdp)]; exact e
    have npx : ∀ y ∈ x.all, y ≠ p := fun y hy z => (hR.tr y hy).1 (z ▸ hp)
    refine ⟨p, dp, x, tot, ws, wr, r, st, rfl, upd_same, hR.same s0, fun z => npx p z rfl, fun H1 S D hA hS hD kp1 => ⟨rfl, ?_⟩⟩
    have hSp : S ≠ p := fun z => by rw [z, upd_same] at hS; cases hS
    have hDp : D ≠ p := fun z => by rw [z, upd_same] at hD; cases hD
    have hSn : H S = none := by
      cases e : H S with
      | none => rfl
      | some o => rw [s0 _ _ e] at hS; cases hS
    have hDn : H D = none := by
      cases e : H D with
      | none => rfl
      | some o => rw [s0 _ _ e] at hD; cases hD
    have s1 : Same H H1 := fun c o e => kp1 _ _ (s0 _ _ e) (by simpa using ne_of_none e hp)
    obtain ⟨da, hoa⟩ := hA.ob
    -- what the attempt may change is new
    have new : ∀ {H2 : Hp}, Kp (AA.mut ⟨p, S, D, x.wd, x.a, x.l, x.wl, x.as, x.bs⟩) H1 H2 → Same H H2 := fun kp2 c o e => kp2 _ _ (s1 _ _ e) (by
      have n1 := ne_of_none e hp
      have n2 := ne_of_none e hSn
      have n3 := ne_of_none e hDn
      simp [AA.mut, n1, n2, n3])
    refine ⟨_, rfl, p, da, _, rfl, hoa, rfl, _, rfl, _, rfl, ⟨p, S, D, x.wd, x.a, x.l, x.wl, x.as, x.bs⟩, _, ws, r, wr, what, of, rfl, hA, hw, fun v r' hone H2 pcs wr2 hA2 hpl2 kp2 => ?_, fun hone H2 kp2 => k2 hone H2 (new kp2)⟩
    have s2 := new kp2
    obtain ⟨da2, hoa2⟩ := hA2.ob
    obtain ⟨dx, ho⟩ := hR.ob
    have ho2 := s2 _ _ ho
    have nop : x.o ≠ p := npx _ (by simp [RA.all])
    refine ⟨_, rfl, p, _, da2, _, _, rfl, hoa2, T.cl_Attempt, T.n_Attempt_states, af_states _ _ _ _ _, _, rfl, x.o, _, dx, _, rfl, ho2, T.cl_Reader, T.n_Reader_states, (by show 5 < 1000; decide), ?_⟩
    have hoa3 : (upd H2 x.o (.ins T.C_Reader dx (rdf x.a S x.wd wr st))) p = some (.ins T.C_Attempt da2 (af x.a S x.wd wr2 D)) := by rw [upd_ne (Ne.symm nop)]; exact hoa2
    refine ⟨_, rfl, p, _, da2, _, _, rfl, hoa3, T.cl_Attempt, T.n_Attempt_words_read, af_words_read _ _ _ _ _, _, rfl, x.o, _, dx, _, rfl, upd_same, T.cl_Reader, T.n_Reader_words_read, (by show 5 < 1000; decide), ?_⟩
    rw [upd_upd]
    have hoa4 : (upd H2 x.o (.ins T.C_Reader dx (rdf x.a S x.wd wr2 st))) p = some (.ins T.C_Attempt da2 (af x.a S x.wd wr2 D)) := by rw [upd_ne (Ne.symm nop)]; exact hoa2
    obtain ⟨rs, hDl, hts⟩ := hA2.pc
    have nxall : ∀ y ∈ x.all, y ≠ S ∧ y ≠ D := fun y hy => ⟨fun z => (hR.tr y hy).1 (z ▸ hSn), fun z => (hR.tr y hy).1 (z ▸ hDn)⟩
    obtain ⟨noS, noD⟩ := nxall x.o (by simp [RA.all])
    have ndx := hR.nd
    have nof : x.o ∉ x.foot := fun z => (List.nodup_cons.mp ndx).1 (by simp only [List.mem_cons]; exact .inr (.inr z))
    have kp4 : Kp [x.o] H2 (upd H2 x.o (.ins T.C_Reader dx (rdf x.a S x.wd wr2 st))) := Kp.upd
    have nt4 : ∀ y ∈ [x.o], ∀ vs, H2 y ≠ some (.tup vs) := fun y hy vs e => by
      have hy : y = x.o := by simpa using hy
      rw [hy, ho2] at e; cases e
    have hD4 : (upd H2 x.o (.ins T.C_Reader dx (rdf x.a S x.wd wr2 st))) D = some (.lst (rs.map V.ref)) := kp4 _ _ hDl (by simpa using Ne.symm noD)
    have hrow4 := hA2.row.kp kp4 (fun y hy => by simpa using fun z : y = x.o => nof (z ▸ hy)) nt4
    have ts4 := hts.step fun c vs e => kp4 _ _ e fun z => nt4 c z vs e
    have hrl : rs.length = pcs.length := by rw [hts.len, List.length_map]
    obtain ⟨H4, hH4⟩ : ∃ H4, H4 = upd H2 x.o (.ins T.C_Reader dx (rdf x.a S x.wd wr2 st)) := ⟨_, rfl⟩
    have ho4 : H4 x.o = some (.ins T.C_Reader dx (rdf x.a S x.wd wr2 st)) := by rw [hH4]; exact upd_same
    have hS4 : H4 S = some (.lst (nV r'.states)) := by rw [hH4]; exact kp4 _ _ hA2.st (by simpa using Ne.symm noS)
    have hwd4 : H4 x.wd = some (.lst (nV ws)) := by
      rw [hH4]
      refine kp4 _ _ hA2.wds ?_
      have : x.wd ≠ x.o := fun z => (List.nodup_cons.mp ndx).1 (by rw [← z]; simp)
      simpa using this
    have kpH4 : Kp [x.o] H H4 := fun c o e n => by rw [hH4]; exact kp4 _ _ (s2 _ _ e) n
    rw [← hH4] at hD4 hrow4 ts4 hoa4
    dsimp only
    show tSeq _ _ _ _ (upd H2 x.o (.ins T.C_Reader dx (rdf x.a S x.wd wr2 st)))
    rw [← hH4]
    have nmutS : S ∉ x.a :: x.wl :: (x.as ++ x.bs) := fun z => (nxall S (by
      rcases List.mem_cons.mp z with z | z
      · simp [RA.all, RA.foot, z]
      rcases List.mem_cons.mp z with z | z
      · simp [RA.all, RA.foot, z]
      · simp only [RA.all, RA.foot, List.mem_cons]; exact .inr (.inr (.inr (.inr (.inr (.inr z))))))).1 rfl
    have memf : ∀ z, z ∈ x.a :: x.wl :: (x.as ++ x.bs) → z ∈ x.foot := fun z h => by
      rcases List.mem_cons.mp h with z | h
      · simp [RA.foot, z]
      rcases List.mem_cons.mp h with z | h
      · simp [RA.foot, z]
      · simp only [RA.foot, List.mem_cons]; exact .inr (.inr (.inr h))
    have nD4 : D ∉ x.a :: x.wl :: (x.as ++ x.bs) := fun z => (nxall D (by simp only [RA.all, List.mem_cons]; exact .inr (.inr (.inr (memf _ z))))).2 rfl
    have nO4 : x.o ∉ x.a :: x.wl :: (x.as ++ x.bs) := fun z => nof (memf _ z)
    have nW4 : x.wd ∉ x.a :: x.wl :: (x.as ++ x.bs) := fun z => (List.nodup_cons.mp (List.nodup_cons.mp (List.nodup_cons.mp ndx).2).2).1 (memf _ z)
    refine ⟨_, rfl, p, _, da2, _, _, rfl, hoa4, T.cl_Attempt, T.n_Attempt_pieces, af_pieces _ _ _ _ _, D, rfl, ⟨_, SqL.of hD4⟩, for_list (K := K) (a := D) (xs := rs.map V.ref) (fun i σ H' => ∃ v5 wl', σ = [some (.ref x.o), some (iV what), some (iV of), some (.ref p), some (iV v), v5] ∧
        RowAt T H' x.a x.l wl' x.as x.bs ((pcs.take i).foldl RowS.go ⟨r.lanes, tot, r.models, r.group⟩) ∧ (wl' = x.wl ∨ H4 wl' = none) ∧ Kp (x.a :: x.wl :: (x.as ++ x.bs)) H4 H')
      ⟨none, x.wl, rfl, hrow4, .inl rfl, Kp.refl _ _⟩ (fun i σ H' _ ⟨_, _, _, _, _, kp⟩ => SqL.of (kp _ _ hD4 nD4)) ?_ ?_⟩
    · rintro i y σ H5 hi ⟨v5, wl5, rfl, hrow5, hwl5, kp5⟩
      have hil : i < rs.length := by
        have := (List.getElem?_eq_some_iff.mp hi).1
        simpa using this
      obtain ⟨it, eit⟩ : ∃ it, pcs[i]? = some it := ⟨_, List.getElem?_eq_getElem (by omega)⟩
      obtain ⟨t, er, ht4⟩ := ts4.get (j := i) (vs := itV it) (by rw [List.getElem?_map, eit]; rfl)
      rw [List.getElem?_map, er] at hi
      cases hi
      have nt5 : t ∉ x.a :: x.wl :: (x.as ++ x.bs) := fun z => (hrow4.tr t (memf _ z)).2 _ ht4
      have ht5 := kp5 _ _ ht4 nt5
      have ho5 := kp5 _ _ ho4 nO4
      obtain ⟨dr5, hor5⟩ := hrow5.ob
      have esh : shp ((pcs.take i).foldl RowS.go ⟨r.lanes, tot, r.models, r.group⟩).ms = shp r.models := by
        rw [goAll_row r.lanes (pcs.take i) tot (r.models, r.group)]
        exact goAll_shp _ _ _
      refine ⟨_, rfl, x.o, _, dx, _, _, rfl, ho5, T.cl_Reader, T.n_Reader_row, rdf_row _ _ _ _ _, x.a, dr5, _, rfl, hor5, rfl, _, rfl, x.a, x.l, wl5, t, x.as, x.bs, _, it, rfl, hrow5, ht5, by rw [esh]; exact hA2.pk it (List.mem_of_getElem? eit), fun H6 wl6 hrow6 hwl6 kp6 => ?_⟩
      refine ⟨_, wl6, rfl, ?_, ?_, ?_⟩
      · rw [take_snoc eit, List.foldl_append]; exact hrow6
      · have back : H5 wl6 = none → H4 wl6 = none ∨ wl6 = x.wl := fun e => by
          cases q : H4 wl6 with
          | none => exact .inl rfl
          | some o =>
            by_cases z : wl6 ∈ x.a :: x.wl :: (x.as ++ x.bs)
            · rcases List.mem_cons.mp z with z | z
              · rw [z, hor5] at e; cases e
              rcases List.mem_cons.mp z with z | z
              · exact .inr z
              · exact absurd e (hrow5.tr wl6 (by simp only [List.mem_cons]; exact .inr (.inr (.inr z)))).1
            · rw [kp5 _ _ q z] at e; cases e
        rcases hwl6 with z | z
        · rw [z]; exact hwl5
        · rcases back z with z | z
          · exact .inr z
          · exact .inl z
      · intro c o e n
        refine kp6 _ _ (kp5 _ _ e n) ?_
        simp only [List.mem_cons, not_or] at n ⊢
        refine ⟨n.1, ?_, n.2.2⟩
        rcases hwl5 with z | z
        · rw [z]; exact n.2.1
        · exact fun zz => by rw [zz, z] at e; cases e
    · rintro σ H5 ⟨v5, wl5, rfl, hrow5, hwl5, kp5⟩
      refine ⟨_, rfl, ?_⟩
      rw [List.length_map, hrl, List.take_length, goAll_row r.lanes pcs tot (r.models, r.group), ← hA2.rm] at hrow5
      have hwlH : wl5 = x.wl ∨ H wl5 = none := by
        rcases hwl5 with z | z
        · exact .inl z
        · refine .inr ?_
          cases q : H wl5 with
          | none => rfl
          | some o =>
            by_cases zo : wl5 = x.o
            · rw [zo, ho4] at z; cases z
            · rw [kpH4 _ _ q (by simpa using zo)] at z; cases z
      refine k1 v r' hone H5 S wl5 _ wr2 ⟨⟨dx, kp5 _ _ ho4 nO4⟩, by rw [hA2.rl]; exact hrow5, kp5 _ _ hS4 nmutS, kp5 _ _ hwd4 nW4, ?_, hA2.rw_, hA2.wle, ?_⟩ hSn hwlH ?_
      · -- apart
        show (x.o :: S :: x.wd :: x.a :: x.l :: wl5 :: (x.as ++ x.bs)).Nodup
        have nd5 := hrow5.nd
        have nw5 : ∀ y ∈ x.all, wl5 ≠ x.wl → y ≠ wl5 := fun y hy hn z => by
          rcases hwlH with q | q
          · exact hn q
          · exact (hR.tr y hy).1 (z ▸ q)
        have nSw : S ≠ wl5 := fun z => by
          rcases hwl5 with q | q
          · exact (nxall x.wl (by simp [RA.all, RA.foot])).1 (by rw [z, q])
          · rw [← z, hS4] at q; cases q
        have sub : ∀ z, z ∈ x.a :: x.l :: wl5 :: (x.as ++ x.bs) → z ∈ x.foot ∨ z = wl5 := fun z h => by
          rcases List.mem_cons.mp h with q | h
          · exact .inl (by simp [RA.foot, q])
          rcases List.mem_cons.mp h with q | h
          · exact .inl (by simp [RA.foot, q])
          rcases List.mem_cons.mp h with q | h
          · exact .inr q
          · exact .inl (by simp only [RA.foot, List.mem_cons]; exact .inr (.inr (.inr h)))
        have now : x.o ≠ wl5 := fun z => by
          by_cases q : wl5 = x.wl
          · exact nof (by rw [z, q]; simp [RA.foot])
          · exact nw5 x.o (by simp [RA.all]) q z
        have nww : x.wd ≠ wl5 := fun z => by
          by_cases q : wl5 = x.wl
          · exact nW4 (by rw [z, q]; simp)
          · exact nw5 x.wd (by simp [RA.all]) q z
        refine List.nodup_cons.mpr ⟨fun z => ?_, List.nodup_cons.mpr ⟨fun z => ?_, List.nodup_cons.mpr ⟨fun z => ?_, nd5⟩⟩⟩
        · rcases List.mem_cons.mp z with z | z
          · exact noS z
          rcases List.mem_cons.mp z with z | z
          · exact (List.nodup_cons.mp ndx).1 (by rw [z]; simp)
          · rcases sub _ z with q | q
            · exact nof q
            · exact now q
        · rcases List.mem_cons.mp z with z | z
          · exact (nxall x.wd (by simp [RA.all])).1 z.symm
          · rcases sub _ z with q | q
            · exact (nxall S (by simp only [RA.all, List.mem_cons]; exact .inr (.inr (.inr q)))).1 rfl
            · exact nSw q
        · rcases sub _ z with q | q
          · exact (List.nodup_cons.mp (List.nodup_cons.mp (List.nodup_cons.mp ndx).2).2).1 q
          · exact nww q
      · rw [hA2.rl]; exact hA2.sl
      · intro c o e n
        simp only [RA.mut, List.mem_cons, not_or] at n
        refine kp5 _ _ (kpH4 _ _ e (by simpa using n.1)) ?_
        simp only [List.mem_cons, not_or]
        exact ⟨n.2.1, n.2.2.1, n.2.2.2⟩
end FB
end
section
namespace FB
open PySem PySem.Spec PyProof.Rows L2 FM
open LwBits (Item Models Want)
open LwBits (Reader)
variable {P : Program} {w : World} {K : PySem.W.Frag} {mg : Str → Option Value} {base : Heap}
theorem ReaderAt.stop {T : Txt K mg} {H : Hp} {x : RA} {tot : Nat} {ws : List Nat} {wr : Nat} {r : Reader} {st : Bool} {dx : Addr} (h : ReaderAt T H x tot ws wr r st) (ho : H x.o = some (.ins T.C_Reader dx (rdf x.a x.stl x.wd wr st))) :
    ReaderAt T (upd H x.o (.ins T.C_Reader dx (rdf x.a x.stl x.wd wr true))) x tot ws wr r true := by
  have nd := h.nd
  have no := (List.nodup_cons.mp nd).1
  have kp : Kp [x.o] H (upd H x.o (.ins T.C_Reader dx (rdf x.a x.stl x.wd wr true))) := Kp.upd
  have nt : ∀ y ∈ [x.o], ∀ vs, H y ≠ some (.tup vs) := fun y hy vs e => by
    have hy : y = x.o := by simpa using hy
    rw [hy, ho] at e; cases e
  exact ⟨⟨dx, upd_same⟩, h.row.kp kp (fun y hy => by simpa using fun z : y = x.o => no (by rw [← z]; simp only [List.mem_cons]; exact .inr (.inr hy))) nt, kp _ _ h.sts (by simpa using fun z : x.stl = x.o => no (by rw [← z]; simp)), kp _ _ h.wds (by simpa using fun z : x.wd = x.o => no (by rw [← z]; simp)), nd, h.rw_, h.wle, h.sl⟩
def gotAll (st : Bool) (r : Reader) (ts : List (Nat × Nat)) : List Nat × Reader × Bool := if st = true then ([], r, true) else Coder.readAll r ts
def sp_Reader_read (T : Txt K mg) : Sp := fun vs H Q _ => ∃ (x : RA) (tot : Nat) (ws : List Nat) (wr : Nat) (r : Reader) (st : Bool) (q : Addr) (ns : List Nat) (ts : List (Nat × Nat)), vs = [.ref x.o, .ref q] ∧ ReaderAt T H x tot ws wr r st ∧ SqL K H q (nV ns) ∧ Coder.wantsIn r.models ns = some ts ∧ ns.length ≤ 5000 ∧
  ∀ (H' : Hp) (x' : RA) (tot' wr' : Nat) (p : Addr), ReaderAt T H' x' tot' ws wr' (gotAll st r ts).2.1 (gotAll st r ts).2.2 → x'.o = x.o → (∀ y ∈ x'.all, y ∈ x.all ∨ H y = none) → Kp x.mut H H' → H p = none → p ∉ x'.all → H' p = some (.lst (nV (gotAll st r ts).1)) → Q (.ref p) H'
theorem ok_Reader_read (T : Txt K mg) : FnOk P w K mg base CX0 7 T.f_Reader_read T.d_Reader_read ["self", "numbers"] (sp_Reader_read T) := by
  refine T.F_Reader_read.ok sc_Reader_read (fun vs H Q E h => ?_) (fun cdv A outer s H vs Q E hr h => ?_)
  · obtain ⟨x, tot, ws, wr, r, st, q, ns, ts, rfl, _⟩ := h; rfl
  · obtain ⟨x, tot, ws, wr, r, st, q, ns, ts, rfl, hR, hq, hts, hlen, k⟩ := h
    refine ⟨_, (pss_cons (ps_set (i := 2) sc_Reader_read.nd rfl (Or.inl rfl) (pe_lst pa_nil)) (pss_cons (ps_for PassesOwn.never rfl (pi_zip rfl T.bl_zip (pa_cons (pe_sliceK (pv 1) (po_some pe_int) (po_some pe_int)) (pa_cons (pe_sliceK (pv 1) (po_some pe_int) (po_some pe_int)) pa_nil))) (pg_tup rfl (pgs_cons (pg_name (i := 3) sc_Reader_read.nd rfl (Or.inl rfl)) (pgs_cons (pg_name (i := 4) sc_Reader_read.nd rfl (Or.inl rfl)) pgs_nil))) (pss_cons (ps_if (pt_val (pe_fld (pv 0) rfl)) (pss_one ps_break) pss_nil) (pss_one (ps_try T.ow_WordLacks rfl rfl rfl (fun p0 s0 e0 => by exact (pss_one (ps_expr (pe_bm PySem.F.plainAttrs_list PySem.F.slot_list_append PySem.F.type_list_append mt_append (pv 2) (pa_cons (pe_methX (pv 0) T.cl_Reader T.me_Reader_read_whole (ok_Reader_read_whole T) (hr.mono (by decide)) T.b_Reader_read_whole .nil (by exact pass_try) (pa_cons (pv 3) (pa_cons (pv 4) pa_nil))) pa_nil))))) (fun _ => by exact (pss_one (ps_fld (pv 0) pe_bl rfl))))))) (pss_one (ps_ret (pv 2))))), ?_⟩
    have h2 : ns.length % 2 = 0 := by
      by_cases h : ns.length % 2 = 1
      · rw [wantsIn_odd _ ns.length ns rfl h] at hts; cases hts
      · omega
    obtain ⟨ts', ets, hts'⟩ := flat2_of (ns.length / 2) ns (by omega)
    subst ets
    have hl := flat2_len ts'
    rw [wantsIn_flat2] at hts
    have hall : (ts'.all fun t => Coder.wantOk r.models t.1 t.2) = true := by
      by_cases h : (ts'.all fun t => Coder.wantOk r.models t.1 t.2) = true
      · exact h
      · rw [if_neg h] at hts; cases hts
    rw [if_pos hall] at hts
    have hts := Option.some.inj hts
    subst hts
    rw [List.all_eq_true] at hall
    refine ⟨Nat.zero_le _, fun D hD => ?_⟩
    have s0 := Same.new (o := .lst []) hD
    refine ⟨_, rfl, _, rfl, _, rfl, q, _, 0, 2, rfl, rfl, rfl, by decide, s0.seq hq, fun p1 hp1 => ?_⟩
    rw [sl3]
    have a1 := Same.new (o := .lst (nV (stepV (flat2 ts') 0 2))) hp1
    have s1 := s0.trans a1
    refine ⟨_, rfl, _, rfl, _, rfl, q, _, 1, 2, rfl, rfl, rfl, by decide, s1.seq hq, fun p2 hp2 => ?_⟩
    rw [sl3]
    have a2 := Same.new (o := .lst (nV (stepV (flat2 ts') 1 2))) hp2
    have s2 := s1.trans a2
    have k1 := a2 p1 _ upd_same
    have kD := a2 _ _ (a1 D _ upd_same)
    have n1D : p1 ≠ D := fun z => by rw [z, upd_same] at hp1; cases hp1
    have n2D : p2 ≠ D := fun z => by rw [z, a1 D _ upd_same] at hp2; cases hp2
    have hp1n : H p1 = none := s0.free hp1
    have hp2n : H p2 = none := s1.free hp2
    have nall : ∀ c, H c = none → c ∉ x.all := fun c e z => (hR.tr c z).1 e
    refine ⟨p1, p2, _, _, rfl, SqL.of k1, SqL.of upd_same, ?_⟩
    have fin : ∀ (H' : Hp) (stl wl : Addr) (toti wri : Nat) (ri : Reader) (sti : Bool) (vals : List Nat), ReaderAt T H' { x with stl := stl, wl := wl } toti ws wri ri sti → (stl = x.stl ∨ stl ∈ x.mut ∨ H stl = none) → (wl ∈ x.mut ∨ H wl = none) → Kp x.mut H H' → D ∉ RA.all { x with stl := stl, wl := wl } → H' D = some (.lst (nV vals)) → gotAll st r ts' = (vals, ri, sti) → Q (.ref D) H' := by
      intro H' stl wl toti wri ri sti vals hRi hstl hwl kp nD hD' eres
      rw [eres] at k
      refine k H' _ toti wri D hRi rfl (fun y hy => ?_) kp hD nD hD'
      rcases List.mem_cons.mp hy with z | hy
      · exact .inl (by rw [z]; simp [RA.all])
      rcases List.mem_cons.mp hy with z | hy
      · have z : y = stl := z
        rcases hstl with q1 | q1 | q1
        · exact .inl (by rw [z, q1]; simp [RA.all])
        · exact .inl (by rw [z]; exact RA.mut_sub _ q1)
        · exact .inr (z ▸ q1)
      rcases List.mem_cons.mp hy with z | hy
      · exact .inl (by rw [z]; simp [RA.all])
      rcases List.mem_cons.mp hy with z | hy
      · exact .inl (by rw [z]; simp [RA.all, RA.foot])
      rcases List.mem_cons.mp hy with z | hy
      · exact .inl (by rw [z]; simp [RA.all, RA.foot])
      rcases List.mem_cons.mp hy with z | hy
      · have z : y = wl := z
        rcases hwl with q1 | q1
        · exact .inl (by rw [z]; exact RA.mut_sub _ q1)
        · exact .inr (z ▸ q1)
      · exact .inl (by simp only [RA.all, RA.foot, List.mem_cons]; exact .inr (.inr (.inr (.inr (.inr (.inr hy))))))
    refine for_it (n := ts'.length) (fun i σ H' => ∃ (v3 v4 : Option V) (stl wl : Addr) (toti wri : Nat) (ri : Reader) (sti : Bool) (vals : List Nat), σ = [some (.ref x.o), some (.ref q), some (.ref D), v3, v4] ∧
        ReaderAt T H' { x with stl := stl, wl := wl } toti ws wri ri sti ∧ (stl = x.stl ∨ stl ∈ x.mut ∨ H stl = none) ∧ (wl ∈ x.mut ∨ H wl = none) ∧ Kp x.mut H H' ∧
        (∀ c, c = p1 ∨ c = p2 ∨ c = D → c ∉ RA.all { x with stl := stl, wl := wl }) ∧ H' p1 = some (.lst (nV (stepV (flat2 ts') 0 2))) ∧ H' p2 = some (.lst (nV (stepV (flat2 ts') 1 2))) ∧ H' D = some (.lst (nV vals)) ∧ shp ri.models = shp r.models ∧ vals.length ≤ i ∧
        gotAll st r ts' = if sti = true then (vals, ri, true) else (vals ++ (Coder.readAll ri (ts'.drop i)).1, (Coder.readAll ri (ts'.drop i)).2))
      ⟨none, none, x.stl, x.wl, tot, wr, r, st, [], rfl, hR.same s2, .inl rfl, .inl (by simp [RA.mut]), Kp.of s2, ?_, k1, upd_same, kD, rfl, Nat.le_refl _, ?_⟩ ?_ ?_ ?_ ?_
    · rintro c (z | z | z)
      · rw [z]; exact nall _ hp1n
      · rw [z]; exact nall _ hp2n
      · rw [z]; exact nall _ hD
    · unfold gotAll
      cases st with
      | true => rfl
      | false => simp
    · rintro i σ H' hi ⟨_, _, _, _, _, _, _, _, _, _, _, _, _, _, _, g1, g2, _⟩
      exact (zip2_go hi (SqL.of g1) (SqL.of g2)).1
    · rintro σ H' ⟨_, _, _, _, _, _, _, _, _, _, _, _, _, _, _, g1, g2, _⟩
      exact zip2_stop (SqL.of g1) (SqL.of g2)
    · rintro i y σ H1 H2 hi ⟨v3, v4, stl, wl, toti, wri, ri, sti, vals, rfl, hRi, hstl, hwl, kpi, nci, g1, g2, hDi, eshp, hvl, eres⟩ hy
      obtain ⟨t0, t, et, rfl, ht0, rfl⟩ := (zip2_go hi (SqL.of g1) (SqL.of g2)).2 _ _ hy
      have s5 : Same H1 (upd H1 t0 (.tup [iV t.1, iV t.2])) := Same.new ht0
      obtain ⟨H3, hH3⟩ : ∃ H3, H3 = upd H1 t0 (.tup [iV t.1, iV t.2]) := ⟨_, rfl⟩
      have ht3 : H3 t0 = some (.tup [iV t.1, iV t.2]) := by rw [hH3]; exact upd_same
      rw [← hH3] at s5 ⊢
      have hR3 := hRi.same s5
      obtain ⟨dx, ho⟩ := hR3.ob
      refine ⟨t0, _, rfl, SqT.of ht3, rfl, _, _, rfl, _, _, rfl, rfl, ?_⟩
      refine ⟨_, rfl, x.o, _, dx, _, _, rfl, ho, T.cl_Reader, T.n_Reader_stopped, rdf_stopped _ _ _ _ _, _, rfl, iteB (fun hst => ?_) (fun hst => ?_)⟩
      · rw [hst, if_pos rfl] at eres
        rw [hst] at hR3
        exact ⟨_, rfl, fin H3 stl wl toti wri ri true vals hR3 hstl hwl (fun c o e n => s5 _ _ (kpi _ _ e n)) (nci D (.inr (.inr rfl))) (s5 _ _ hDi) eres⟩
      · rw [hst, if_neg (by simp)] at eres
        rw [hst] at hR3 ho
        have hok : Coder.wantOk ri.models t.1 t.2 = true := by rw [wantOk_shp eshp]; exact hall t (List.mem_of_getElem? et)
        have edrop : ts'.drop i = t :: ts'.drop (i + 1) := by
          rw [List.drop_eq_getElem_cons hi]
          rw [List.getElem?_eq_getElem hi] at et
          rw [Option.some.inj et]
        have eread : Coder.readAll ri (ts'.drop i) = match Coder.readOne ri t.1 t.2 with
            | none => ([], ri, true)
            | some y => let z := Coder.readAll y.2 (ts'.drop (i + 1))
              (y.1 :: z.1, z.2) := by rw [edrop]; rfl
        have hD3 := s5 _ _ hDi
        have nmut : ∀ c, c = p1 ∨ c = p2 ∨ c = D → c ∉ RA.mut { x with stl := stl, wl := wl } := fun c hc z => nci c hc (RA.mut_sub c z)
        have kpm : ∀ {H4 : Hp}, Kp (RA.mut { x with stl := stl, wl := wl }) H3 H4 → Kp x.mut H H4 := fun kp4 c o e n => kp4 _ _ (s5 _ _ (kpi _ _ e n)) (by
          simp only [RA.mut, List.mem_cons, not_or] at n ⊢
          refine ⟨n.1, n.2.1, ?_, n.2.2.2⟩
          rcases hwl with z | z
          · exact fun zz => by
              simp only [RA.mut, List.mem_cons] at z
              rw [← zz] at z
              rcases z with z | z | z | z
              · exact n.1 z
              · exact n.2.1 z
              · exact n.2.2.1 z
              · exact n.2.2.2 z
          · exact fun zz => by rw [zz, z] at e; cases e)
        have backH : ∀ c, H3 c = none → c ∈ x.mut ∨ H c = none := fun c e => by
          cases qc : H c with
          | none => exact .inr rfl
          | some o =>
            by_cases z : c ∈ x.mut
            · exact .inl z
            · rw [s5 _ _ (kpi _ _ qc z)] at e; cases e
        intro pins0
        refine ⟨_, rfl, .inl ⟨rfl, _, SqL.of hD3⟩, rfl, _, rfl, x.o, dx, _, rfl, ho, rfl, _, rfl, _, rfl, { x with stl := stl, wl := wl }, toti, ws, wri, ri, false, t.1, t.2, rfl, hR3, hok, fun v r' hone H4 stl4 wl4 tot4 wr4 hR4 hstl4 hwl4 kp4 => ?_, fun hone H4 s4 => ?_⟩
        · rw [hone] at eread
          have hD4 := kp4 _ _ hD3 (nmut D (.inr (.inr rfl)))
          refine ⟨D, _, _, rfl, rfl, hD4, ?_, ?_⟩
          · rw [nV_len]
            exact Nat.lt_of_le_of_lt hvl (Nat.lt_of_lt_of_le hi (small20 (by omega)))
          have nc4 : ∀ c, c = p1 ∨ c = p2 ∨ c = D → c ∉ RA.all { x with stl := stl4, wl := wl4 } := fun c hc z => by
            have hc3 : H3 c ≠ none := by
              rcases hc with z | z | z
              · rw [z, s5 _ _ g1]; simp
              · rw [z, s5 _ _ g2]; simp
              · rw [z, hD3]; simp
            have ni := nci c hc
            simp only [RA.all, RA.foot, List.mem_cons, not_or] at z ni
            rcases z with z | z | z | z | z | z | z
            · exact ni.1 z
            · exact hc3 (z ▸ hstl4)
            · exact ni.2.2.1 z
            · exact ni.2.2.2.1 z
            · exact ni.2.2.2.2.1 z
            · rcases hwl4 with q1 | q1
              · exact ni.2.2.2.2.2.1 (z.trans q1)
              · exact hc3 (z ▸ q1)
            · exact ni.2.2.2.2.2.2 z
          have kpu : Kp [D] H4 (upd H4 D (.lst (nV vals ++ [iV v]))) := Kp.upd
          have hR5 := hR4.kp kpu (fun y hy => by simpa using fun z : y = D => nc4 D (.inr (.inr rfl)) (z ▸ hy)) (fun y hy vs e => by
            have hy : y = D := by simpa using hy
            rw [hy, hD4] at e; cases e)
          have nDm : ∀ c, H c ≠ none → c ≠ D := fun c e z => e (z ▸ hD)
          refine ⟨_, _, stl4, wl4, tot4, wr4, r', false, vals ++ [v], rfl, hR5, ?_, ?_, fun c o e n => kpu _ _ (kpm kp4 c o e n) (by simpa using nDm c (by rw [e]; simp)), nc4, kpu _ _ (kp4 _ _ (s5 _ _ g1) (nmut p1 (.inl rfl))) (by simpa using n1D), kpu _ _ (kp4 _ _ (s5 _ _ g2) (nmut p2 (.inr (.inl rfl)))) (by simpa using n2D), ?_, (readOne_shp hone).trans eshp, by simp; exact hvl, ?_⟩
          · exact .inr (backH _ hstl4)
          · rcases hwl4 with z | z
            · rw [z]; exact hwl
            · exact backH _ z
          · rw [upd_same, nV_app]; rfl
          · rw [if_neg (by simp), eres, eread]
            dsimp only
            rw [List.append_assoc]; rfl
        · intro ex
          rw [hone] at eread
          have ho4 := s4 _ _ ho
          refine ⟨_, rfl, x.o, _, dx, _, rfl, ho4, T.cl_Reader, T.n_Reader_stopped, (by show 5 < 1000; decide), ?_⟩
          have hR4 := (hR3.same s4).stop (x := { x with stl := stl, wl := wl }) ho4
          have kpu : Kp [x.o] H4 (upd H4 x.o (.ins T.C_Reader dx (rdf x.a stl x.wd wri true))) := Kp.upd
          have nco : ∀ c, c = p1 ∨ c = p2 ∨ c = D → c ∉ [x.o] := fun c hc z => nci c hc (by
            have z : c = x.o := by simpa using z
            rw [z]; simp [RA.all])
          refine ⟨_, _, stl, wl, toti, wri, ri, true, vals, rfl, hR4, hstl, hwl, fun c o e n => ?_, nci, kpu _ _ (s4 _ _ (s5 _ _ g1)) (nco p1 (.inl rfl)), kpu _ _ (s4 _ _ (s5 _ _ g2)) (nco p2 (.inr (.inl rfl))), kpu _ _ (s4 _ _ hD3) (nco D (.inr (.inr rfl))), eshp, by omega, ?_⟩
          · refine kpu _ _ (s4 _ _ (s5 _ _ (kpi _ _ e n))) ?_
            have : c ≠ x.o := fun z => n (by rw [z]; simp [RA.mut])
            simpa using this
          · rw [if_pos rfl, eres, eread]
            simp
    · rintro σ H1 ⟨v3, v4, stl, wl, toti, wri, ri, sti, vals, rfl, hRi, hstl, hwl, kpi, nci, g1, g2, hDi, eshp, hvl, eres⟩
      refine ⟨_, rfl, fin H1 stl wl toti wri ri sti vals hRi hstl hwl kpi (nci D (.inr (.inr rfl))) hDi ?_⟩
      rw [eres]
      cases sti with
      | true => rfl
      | false =>
        rw [if_neg (by simp), List.drop_length]
        show (vals ++ [], ri, false) = _
        simp
end FB
end
section
namespace FB
open PySem PySem.Spec PyProof.Rows L2 FM
open LwBits (Item Models Want)
open LwBits (Reader)
variable {P : Program} {w : World} {K : PySem.W.Frag} {mg : Str → Option Value} {base : Heap}
def sp_told_list : Sp := fun vs H Q _ => ∃ (q : Addr) (ns : List Nat), vs = [.ref q] ∧ H q = some (.lst (nV ns)) ∧ ns.length ≤ 100000 ∧ ∀ (H' : Hp) (p : Addr), Same H H' → H p = none → H' p = some (.lst (V.int 0 :: iV ns.length :: nV ns)) → Q (.ref p) H'
theorem ok_told_list (T : Txt K mg) : FnOk P w K mg base CX0 1 T.f_told_list T.d_told_list ["numbers"] sp_told_list := by
  refine T.F_told_list.ok sc_told_list (fun vs H Q E h => ?_) (fun cdv A outer s H vs Q E hr h => ?_)
  · obtain ⟨q, ns, rfl, _⟩ := h; rfl
  · obtain ⟨q, ns, rfl, hq, hl, k⟩ := h
    refine ⟨_, (pss_one (ps_ret (pe_op op_cat (pe_lst (pa_cons pe_int (pa_cons (pe_callB call_len_seq (by rfl) T.bl_len PySem.boot_len (pa_cons (pv 0) pa_nil)) pa_nil))) (pv 0)))), ?_⟩
    refine ⟨_, rfl, q, _, rfl, .inl (SqL.of hq), (by show 2 ≤ sizeLine; decide), fun l hl1 => ?_⟩
    have s1 := Same.new (o := .lst [V.int 0, V.int (((nV ns).length : Nat) : Int)]) hl1
    refine ⟨_, rfl, l, q, _, _, rfl, rfl, upd_same, s1 _ _ hq, ?_, fun p hp => ?_⟩
    · show 2 + (nV ns).length ≤ sizeLine
      rw [nV_len]
      exact Nat.le_trans (show _ ≤ 100002 by omega) (by decide)
    refine k _ p (s1.trans (Same.new hp)) (s1.free hp) ?_
    rw [upd_same, nV_len]
    rfl
def sp_row_fits : Sp := fun vs H Q _ => ∃ (n : Nat) (q : Addr) (ns : List Nat), vs = [iV n, .ref q] ∧ SqL K H q (nV ns) ∧ ∀ H', Same H H' → Q (.bl (Coder.lanesOk n && msOk ns)) H'
theorem lanes_in (n : Nat) : inV (iV n) [V.int 1, V.int 4, V.int 8, V.int 16] = Coder.lanesOk n := by
  have e : ∀ k : Nat, eqV (V.int (k : Int)) (iV n) = (n == k) := fun k => by
    show eqV (V.int (k : Int)) (V.int (n : Int)) = _
    rw [Bool.eq_iff_iff]
    simp [eqV]
    omega
  unfold inV Coder.lanesOk
  have e1 := e 1
  have e4 := e 4
  have e8 := e 8
  have e16 := e 16
  simp only [List.any_cons, List.any_nil, List.contains_cons, List.contains_nil]
  exact congr (congrArg _ e1) (congr (congrArg _ e4) (congr (congrArg _ e8) (congr (congrArg _ e16) rfl)))
theorem ok_row_fits (T : Txt K mg) : FnOk P w K mg base CX0 3 T.f_row_fits T.d_row_fits ["lanes", "models"] (sp_row_fits (K := K)) := by
  refine T.F_row_fits.ok sc_row_fits (fun vs H Q E h => ?_) (fun cdv A outer s H vs Q E hr h => ?_)
  · obtain ⟨n, q, ns, rfl, _⟩ := h; rfl
  · obtain ⟨n, q, ns, rfl, hq, k⟩ := h
    refine ⟨_, (pss_one (ps_ret (pe_and (pe_cmpR op_in_seq (pv 0) (pe_gr rfl T.g_LANES) (by with_unfolding_all rfl)) (pe_one (pe_call (ok_models_fit T) (hr.mono (by decide)) rfl T.m_models_fit T.F_models_fit.kp T.b_models_fit .nil pass0 (pa_cons (pv 1) pa_nil)))))), ?_⟩
    refine ⟨_, rfl, T.a_LANES, _, rfl, .inr (T.q_LANES _), rfl, rfl, _, rfl, ?_⟩
    have e : (if false = true then !inV (iV n) [V.int 1, V.int 4, V.int 8, V.int 16] else inV (iV n) [V.int 1, V.int 4, V.int 8, V.int 16]) = Coder.lanesOk n := lanes_in n
    rw [e]
    cases hn : Coder.lanesOk n with
    | true =>
      rw [hn] at k
      rw [if_pos rfl]
      exact ⟨_, rfl, q, ns, rfl, hq, fun H' s1 => k H' s1⟩
    | false =>
      rw [hn] at k
      rw [if_neg (by simp)]
      exact k H (Same.refl H)
def cf (wv rv : V) : List (Str × V) := [("writer", wv), ("reader", rv)]
theorem cf_writer (wv rv : V) : (cf wv rv).lookup ("writer" : Str) = some wv := rfl
theorem cf_reader (wv rv : V) : (cf wv rv).lookup ("reader" : Str) = some rv := rfl
def CoderAt (T : Txt K mg) (H : Hp) (c : Addr) (F : List Addr) : Coder.State → Prop
  | .idle => (∃ dx, H c = some (.ins T.C_Coder dx (cf .non .non))) ∧ F = [c]
  | .putting n ms its => ∃ (p a l wl sl : Addr) (as bs : List Addr), (∃ dx, H c = some (.ins T.C_Coder dx (cf (.ref p) .non))) ∧ WriterAt T H p a l wl sl as bs n ms its ∧ F = c :: p :: sl :: a :: l :: wl :: (as ++ bs) ∧ c ∉ p :: sl :: a :: l :: wl :: (as ++ bs)
  | .reading r st => ∃ (x : RA) (tot : Nat) (ws : List Nat) (wr : Nat), (∃ dx, H c = some (.ins T.C_Coder dx (cf .non (.ref x.o)))) ∧ ReaderAt T H x tot ws wr r st ∧ F = c :: x.all ∧ c ∉ x.all
theorem WriterAt.tr {T : Txt K mg} {H : Hp} {p a l wl sl : Addr} {as bs : List Addr} {n : Nat} {ms : Models} {its : List Item} (h : WriterAt T H p a l wl sl as bs n ms its) : ∀ y ∈ p :: sl :: a :: l :: wl :: (as ++ bs), H y ≠ none ∧ ∀ vs, H y ≠ some (.tup vs) := by
  obtain ⟨dx, ho⟩ := h.ob
  obtain ⟨ss, hs, _⟩ := h.sh
  intro y hy
  rcases List.mem_cons.mp hy with z | hy
  · rw [z, ho]; exact ⟨by simp, fun vs e => by cases e⟩
  rcases List.mem_cons.mp hy with z | hy
  · rw [z, hs]; exact ⟨by simp, fun vs e => by cases e⟩
  · exact h.row.tr y hy
theorem WriterAt.kp {T : Txt K mg} {H H' : Hp} {p a l wl sl : Addr} {as bs S : List Addr} {n : Nat} {ms : Models} {its : List Item} (h : WriterAt T H p a l wl sl as bs n ms its) (kp : Kp S H H') (d : ∀ y ∈ p :: sl :: a :: l :: wl :: (as ++ bs), y ∉ S) (nt : ∀ y ∈ S, ∀ vs, H y ≠ some (.tup vs)) : WriterAt T H' p a l wl sl as bs n ms its := by
  obtain ⟨dx, ho⟩ := h.ob
  exact ⟨⟨dx, kp _ _ ho (d _ (by simp))⟩, h.row.kp kp (fun y hy => d y (by simp only [List.mem_cons] at hy ⊢; exact .inr (.inr hy))) nt, h.sh.kp kp (d _ (by simp)) nt, h.nd, h.ok, h.io, h.len⟩
theorem WriterAt.same {T : Txt K mg} {H H' : Hp} {p a l wl sl : Addr} {as bs : List Addr} {n : Nat} {ms : Models} {its : List Item} (h : WriterAt T H p a l wl sl as bs n ms its) (s : Same H H') : WriterAt T H' p a l wl sl as bs n ms its :=
  h.kp (S := []) (fun c o e _ => s c o e) (fun _ _ z => by cases z) (fun _ z => by cases z)
theorem CoderAt.kp {T : Txt K mg} {H H' : Hp} {c : Addr} {F S : List Addr} {s : Coder.State} (h : CoderAt T H c F s) (kp : Kp S H H') (d : ∀ y ∈ F, y ∉ S) (nt : ∀ y ∈ S, ∀ vs, H y ≠ some (.tup vs)) : CoderAt T H' c F s := by
  cases s with
  | idle =>
    obtain ⟨⟨dx, ho⟩, rfl⟩ := h
    exact ⟨⟨dx, kp _ _ ho (d c (by simp))⟩, rfl⟩
  | putting n ms its =>
    obtain ⟨p, a, l, wl, sl, as, bs, ⟨dx, ho⟩, hW, rfl, hc⟩ := h
    exact ⟨p, a, l, wl, sl, as, bs, ⟨dx, kp _ _ ho (d c (by simp))⟩, hW.kp kp (fun y hy => d y (List.mem_cons_of_mem _ hy)) nt, rfl, hc⟩
  | reading r st =>
    obtain ⟨x, tot, ws, wr, ⟨dx, ho⟩, hR, rfl, hc⟩ := h
    exact ⟨x, tot, ws, wr, ⟨dx, kp _ _ ho (d c (by simp))⟩, hR.kp kp (fun y hy => d y (List.mem_cons_of_mem _ hy)) nt, rfl, hc⟩
theorem CoderAt.same {T : Txt K mg} {H H' : Hp} {c : Addr} {F : List Addr} {s : Coder.State} (h : CoderAt T H c F s) (sm : Same H H') : CoderAt T H' c F s :=
  h.kp (S := []) (fun c o e _ => sm c o e) (fun _ _ z => by cases z) (fun _ z => by cases z)
theorem CoderAt.tr {T : Txt K mg} {H : Hp} {c : Addr} {F : List Addr} {s : Coder.State} (h : CoderAt T H c F s) : ∀ y ∈ F, H y ≠ none ∧ ∀ vs, H y ≠ some (.tup vs) := by
  cases s with
  | idle =>
    obtain ⟨⟨dx, ho⟩, rfl⟩ := h
    intro y hy
    have hy : y = c := by simpa using hy
    rw [hy, ho]; exact ⟨by simp, fun vs e => by cases e⟩
  | putting n ms its =>
    obtain ⟨p, a, l, wl, sl, as, bs, ⟨dx, ho⟩, hW, rfl, hc⟩ := h
    intro y hy
    rcases List.mem_cons.mp hy with z | hy
    · rw [z, ho]; exact ⟨by simp, fun vs e => by cases e⟩
    · exact hW.tr y hy
  | reading r st =>
    obtain ⟨x, tot, ws, wr, ⟨dx, ho⟩, hR, rfl, hc⟩ := h
    intro y hy
    rcases List.mem_cons.mp hy with z | hy
    · rw [z, ho]; exact ⟨by simp, fun vs e => by cases e⟩
    · exact hR.tr y hy
theorem CoderAt.ob {T : Txt K mg} {H : Hp} {c : Addr} {F : List Addr} {s : Coder.State} (h : CoderAt T H c F s) : c ∈ F ∧ ∃ dx wv rv, H c = some (.ins T.C_Coder dx (cf wv rv)) := by
  cases s with
  | idle =>
    obtain ⟨⟨dx, ho⟩, rfl⟩ := h
    exact ⟨by simp, dx, _, _, ho⟩
  | putting n ms its =>
    obtain ⟨p, a, l, wl, sl, as, bs, ⟨dx, ho⟩, hW, rfl, hc⟩ := h
    exact ⟨by simp, dx, _, _, ho⟩
  | reading r st =>
    obtain ⟨x, tot, ws, wr, ⟨dx, ho⟩, hR, rfl, hc⟩ := h
    exact ⟨by simp, dx, _, _, ho⟩
def ansI (a : Coder.Answer) : List Int := a.code :: a.told.flatMap CoderNeutral.toldInts
def ansV (a : Coder.Answer) : List V := (ansI a).map V.int
theorem ansV_l (xs : List Nat) : ansV (Coder.tells [.l xs]) = V.int 0 :: iV xs.length :: nV xs := by
  unfold ansV ansI Coder.tells
  simp [CoderNeutral.toldInts, nV]
theorem ansV_t (b : LwBits.Bytes) : ansV (Coder.tells [.t b]) = V.int 0 :: iV (bytesN b).length :: nV (bytesN b) := by
  unfold ansV ansI Coder.tells
  simp [CoderNeutral.toldInts, nV, bytesN]
def Post (T : Txt K mg) (H : Hp) (c : Addr) (F : List Addr) (y : Coder.State × Coder.Answer) (Q : VK) : Prop :=
  ∀ (H' : Hp) (F' : List Addr) (p : Addr), CoderAt T H' c F' y.1 → (∀ z ∈ F', z ∈ F ∨ H z = none) → Kp F H H' → (p ∈ F ∨ H p = none) → p ∉ F' → H' p = some (.lst (ansV y.2)) → (ansV y.2).length ≤ 9000 → Q (.ref p) H'
theorem Post.stay {T : Txt K mg} {H H1 : Hp} {c l : Addr} {F : List Addr} {s : Coder.State} {a : Coder.Answer} {Q : VK} {vs : List V} (k : Post T H c F (s, a) Q) (hC : CoderAt T H c F s) (s1 : Same H H1) (hl : H1 l = none) (e : vs = ansV a) (hb : vs.length ≤ 9000 := by exact Nat.le_of_ble_eq_true rfl) : Q (.ref l) (upd H1 l (.lst vs)) := by
  have s2 := s1.trans (Same.new (o := .lst vs) hl)
  exact k _ F l (hC.same s2) (fun z hz => .inl hz) (Kp.of s2) (.inr (s1.free hl)) (fun z => (hC.tr l z).1 (s1.free hl)) (by rw [upd_same, e]) (e ▸ hb)
theorem Post.stay' {T : Txt K mg} {H H1 : Hp} {c l : Addr} {F : List Addr} {s : Coder.State} {a : Coder.Answer} {Q : VK} (k : Post T H c F (s, a) Q) (hC : CoderAt T H c F s) (s1 : Same H H1) (hn : H l = none) (hl : H1 l = some (.lst (ansV a))) (hb : (ansV a).length ≤ 9000) : Q (.ref l) H1 :=
  k _ F l (hC.same s1) (fun z hz => .inl hz) (Kp.of s1) (.inr hn) (fun z => (hC.tr l z).1 hn) hl hb
theorem iteNT {A B : Prop} (h : A) : if decide (V.non = V.non) = true then A else B := by rw [if_pos (by simp)]; exact h
theorem iteNF {p : Addr} {A B : Prop} (h : B) : if decide (V.ref p = V.non) = true then A else B := by rw [if_neg (by simp)]; exact h
theorem iteNNT {p : Addr} {A B : Prop} (h : A) : if (!decide (V.ref p = V.non)) = true then A else B := by rw [if_pos (by simp)]; exact h
theorem iteNNF {A B : Prop} (h : B) : if (!decide (V.non = V.non)) = true then A else B := by rw [if_neg (by simp)]; exact h
def sp_Coder_init (T : Txt K mg) : Sp := fun vs H Q _ => ∃ (p dx : Addr), vs = [.ref p] ∧ H p = some (.ins T.C_Coder dx []) ∧ ∀ H', CoderAt T H' p [p] .idle → Kp [p] H H' → Q .non H'
theorem ok_Coder___init__ (T : Txt K mg) : FnOk P w K mg base CX0 1 T.f_Coder___init__ T.d_Coder___init__ ["self"] (sp_Coder_init T) := by
  refine T.F_Coder___init__.ok sc_Coder___init__ (fun vs H Q E h => ?_) (fun cdv A outer s H vs Q E hr h => ?_)
  · obtain ⟨p, dx, rfl, _⟩ := h; rfl
  · obtain ⟨p, dx, rfl, hp, k⟩ := h
    refine ⟨_, (pss_cons (ps_fld (pv 0) pe_non rfl) (pss_one (ps_fld (pv 0) pe_non rfl))), ?_⟩
    refine ⟨_, rfl, p, _, dx, _, rfl, hp, T.cl_Coder, T.n_Coder_writer, (by show 0 < 1000; decide), ?_⟩
    refine ⟨_, rfl, p, _, dx, _, rfl, upd_same, T.cl_Coder, T.n_Coder_reader, (by show 1 < 1000; decide), ?_⟩
    rw [upd_upd]
    exact k _ ⟨⟨dx, upd_same⟩, rfl⟩ Kp.upd
def sp_Coder_end (T : Txt K mg) : Sp := fun vs H Q _ => ∃ (c : Addr) (F : List Addr) (s : Coder.State), vs = [.ref c] ∧ CoderAt T H c F s ∧ Post T H c F (Coder.step s .end_) Q
theorem bytesN_app (a b : LwBits.Bytes) : bytesN (a ++ b) = bytesN a ++ bytesN b := List.map_append
theorem map_flat_le (z : Nat) : ∀ l : List Nat, bytesN (l.flatMap (LwBits.le z)) = l.flatMap (leN z)
  | [] => rfl
  | x :: l => by
    rw [List.flatMap_cons, List.flatMap_cons, bytesN_app, map_flat_le z l]
    show (LwBits.le z x).map _ ++ _ = _
    rw [le_nat]
    rfl
theorem code_nat (n : Nat) (ms : Models) (its : List Item) : bytesN (LwBits.code n ms its) = codeN n ms its := by
  unfold LwBits.code codeN bytesOf
  dsimp only
  rw [bytesN_app, map_flat_le, map_flat_le]
theorem codeN_len {n : Nat} (h0 : 0 < n) (ms : Models) (its : List Item) : (codeN n ms its).length ≤ 4 * n + 2 * its.length := by
  unfold codeN bytesOf
  obtain ⟨g1, g2⟩ := push_len n (LwBits.shares n ms its) 0
  rw [shares_len h0 ms _ _ rfl] at g2
  rw [List.length_append, flat_leN, flat_leN, g1]
  omega
theorem ok_Coder_end (T : Txt K mg) : FnOk P w K mg base CX0 5 T.f_Coder_end T.d_Coder_end ["self"] (sp_Coder_end T) := by
  refine T.F_Coder_end.ok sc_Coder_end (fun vs H Q E h => ?_) (fun cdv A outer s H vs Q E hr h => ?_)
  · obtain ⟨c, F, s, rfl, _⟩ := h; rfl
  · obtain ⟨c, F, s, rfl, hC, k⟩ := h
    refine ⟨_, (pss_cons (ps_if (pt_cmpR op_isN (pe_fld (pv 0) rfl) pe_non (nomark _)) (pss_one (ps_ret (pe_lst (pa_cons (pe_gi rfl T.g_NOT_NOW) pa_nil)))) pss_nil) (pss_cons (ps_set (i := 1) sc_Coder_end.nd rfl (Or.inl rfl) (pe_meth0 (pe_fld (pv 0) rfl) T.cl_Writer T.me_Writer_row_coded (ok_Writer_row_coded T) (hr.mono (by decide)) T.b_Writer_row_coded .nil pass0)) (pss_cons (ps_fld (pv 0) pe_non rfl) (pss_one (ps_ret (pe_call (ok_told_list T) (hr.mono (by decide)) rfl T.m_told_list T.F_told_list.kp T.b_told_list .nil pass0 (pa_cons (pv 1) pa_nil))))))), ?_⟩
    cases s with
    | idle =>
      obtain ⟨⟨dx, ho⟩, _⟩ := id hC
      exact ⟨_, rfl, c, _, dx, _, _, rfl, ho, T.cl_Coder, T.n_Coder_writer, cf_writer _ _, rfl, _, rfl, iteNT ⟨(by show 1 ≤ sizeLine; decide), fun l hl => k.stay hC (Same.refl H) hl rfl⟩⟩
    | reading r st =>
      obtain ⟨x, tot, ws, wr, ⟨dx, ho⟩, _⟩ := id hC
      exact ⟨_, rfl, c, _, dx, _, _, rfl, ho, T.cl_Coder, T.n_Coder_writer, cf_writer _ _, rfl, _, rfl, iteNT ⟨(by show 1 ≤ sizeLine; decide), fun l hl => k.stay hC (Same.refl H) hl rfl⟩⟩
    | putting n ms its =>
      obtain ⟨p, a, l, wl, sl, as, bs, ⟨dx, ho⟩, hW, rfl, hc⟩ := id hC
      obtain ⟨dp, hop⟩ := hW.ob
      refine ⟨_, rfl, c, _, dx, _, _, rfl, ho, T.cl_Coder, T.n_Coder_writer, cf_writer _ _, rfl, _, rfl, iteNF ?_⟩
      refine ⟨_, rfl, c, _, dx, _, _, rfl, ho, T.cl_Coder, T.n_Coder_writer, cf_writer _ _, p, dp, _, rfl, hop, rfl, p, a, l, wl, sl, as, bs, n, ms, its, rfl, hW, fun H1 q s1 hq hq1 => ?_⟩
      have ho1 := s1 _ _ ho
      refine ⟨_, rfl, c, _, dx, _, rfl, ho1, T.cl_Coder, T.n_Coder_writer, (by show 2 < 1000; decide), ?_⟩
      have nqc : q ≠ c := fun z => by rw [z, ho] at hq; cases hq
      have kp2 : Kp [c] H1 (upd H1 c (.ins T.C_Coder dx (cf .non .non))) := Kp.upd
      have hlen := codeN_len (n := n) hW.row.l0 ms its
      have hn : n ≤ 16 := hW.row.l16
      refine ⟨_, rfl, q, _, rfl, kp2 _ _ hq1 (by simpa using nqc), by have := hW.len; omega, fun H3 t s3 ht ht3 => ?_⟩
      have htc : t ≠ c := fun z => by rw [z, upd_same] at ht; cases ht
      have htn : H t = none := by
        rw [upd_ne htc] at ht
        exact s1.free ht
      refine k H3 [c] t ⟨⟨dx, s3 _ _ upd_same⟩, rfl⟩ (fun z hz => .inl (by
        have hz : z = c := by simpa using hz
        simp [hz])) (fun d o e nn => s3 _ _ (kp2 _ _ (s1 _ _ e) (by
        simpa using fun z : d = c => nn (by simp [z])))) (.inr htn) (by simpa using htc) ?_ ?_
      · show H3 t = some (.lst (ansV (Coder.tells [.t (LwBits.code n ms its)])))
        rw [ansV_t, code_nat]
        exact ht3
      · show (ansV (Coder.tells [.t (LwBits.code n ms its)])).length ≤ 9000
        rw [ansV_t, code_nat, List.length_cons, List.length_cons, nV_len]
        have := hW.len
        omega
def sp_Coder_done (T : Txt K mg) : Sp := fun vs H Q _ => ∃ (c : Addr) (F : List Addr) (s : Coder.State), vs = [.ref c] ∧ CoderAt T H c F s ∧ Post T H c F (Coder.step s .done) Q
theorem ok_Coder_done (T : Txt K mg) : FnOk P w K mg base CX0 2 T.f_Coder_done T.d_Coder_done ["self"] (sp_Coder_done T) := by
  refine T.F_Coder_done.ok sc_Coder_done (fun vs H Q E h => ?_) (fun cdv A outer s H vs Q E hr h => ?_)
  · obtain ⟨c, F, s, rfl, _⟩ := h; rfl
  · obtain ⟨c, F, s, rfl, hC, k⟩ := h
    refine ⟨_, (pss_cons (ps_if (pt_cmpR op_notN (pe_fld (pv 0) rfl) pe_non (nomark _)) (pss_one (ps_ret (pe_lst (pa_cons (pe_gi rfl T.g_PUTTING) pa_nil)))) pss_nil) (pss_cons (ps_if (pt_cmpR op_isN (pe_fld (pv 0) rfl) pe_non (nomark _)) (pss_one (ps_ret (pe_lst (pa_cons (pe_gi rfl T.g_IDLE) pa_nil)))) pss_nil) (pss_one (ps_ret (pe_lst (pa_cons (pe_ifExp (pt_val (pe_meth0 (pe_fld (pv 0) rfl) T.cl_Reader T.me_Reader_is_at_end (ok_Reader_is_at_end T) (hr.mono (by decide)) T.b_Reader_is_at_end .nil pass0)) (pe_gi rfl T.g_AT_END) (pe_gi rfl T.g_NOT_AT_END)) pa_nil)))))), ?_⟩
    cases s with
    | idle =>
      obtain ⟨⟨dx, ho⟩, _⟩ := id hC
      exact ⟨_, rfl, c, _, dx, _, _, rfl, ho, T.cl_Coder, T.n_Coder_writer, cf_writer _ _, rfl, _, rfl, iteNNF ⟨_, rfl, c, _, dx, _, _, rfl, ho, T.cl_Coder, T.n_Coder_reader, cf_reader _ _, rfl, _, rfl, iteNT ⟨(by show 1 ≤ sizeLine; decide), fun l hl => k.stay hC (Same.refl H) hl rfl⟩⟩⟩
    | putting n ms its =>
      obtain ⟨p, a, l, wl, sl, as, bs, ⟨dx, ho⟩, hW, rfl, hc⟩ := id hC
      exact ⟨_, rfl, c, _, dx, _, _, rfl, ho, T.cl_Coder, T.n_Coder_writer, cf_writer _ _, rfl, _, rfl, iteNNT ⟨(by show 1 ≤ sizeLine; decide), fun l hl => k.stay hC (Same.refl H) hl rfl⟩⟩
    | reading r st =>
      obtain ⟨x, tot, ws, wr, ⟨dx, ho⟩, hR, rfl, hc⟩ := id hC
      obtain ⟨dr, hor⟩ := hR.ob
      refine ⟨_, rfl, c, _, dx, _, _, rfl, ho, T.cl_Coder, T.n_Coder_writer, cf_writer _ _, rfl, _, rfl, iteNNF ⟨_, rfl, c, _, dx, _, _, rfl, ho, T.cl_Coder, T.n_Coder_reader, cf_reader _ _, rfl, _, rfl, iteNF ?_⟩⟩
      refine ⟨_, rfl, c, _, dx, _, _, rfl, ho, T.cl_Coder, T.n_Coder_reader, cf_reader _ _, x.o, dr, _, rfl, hor, rfl, x, tot, ws, wr, r, st, rfl, hR, fun H1 s1 => ⟨_, rfl, iteB (fun he => ?_) (fun he => ?_)⟩⟩
      · refine ⟨(by show 1 ≤ sizeLine; decide), fun l hl => k.stay hC s1 hl ?_⟩
        show _ = ansV (Coder.says (if r.ended = true then 1 else 0))
        rw [he]; rfl
      · refine ⟨(by show 1 ≤ sizeLine; decide), fun l hl => k.stay hC s1 hl ?_⟩
        show _ = ansV (Coder.says (if r.ended = true then 1 else 0))
        rw [he]; rfl
def stModels : Coder.State → Option Models
  | .idle => none
  | .putting n ms its => some (Coder.modelsNow n ms its)
  | .reading r _ => some r.models
def sp_Coder_models_now (T : Txt K mg) : Sp := fun vs H Q _ => ∃ (c : Addr) (F : List Addr) (s : Coder.State), vs = [.ref c] ∧ CoderAt T H c F s ∧ (stModels s = none → Q .non H) ∧ ∀ ms, stModels s = some ms → ∀ l as bs, ModelsAt T H l ms as bs → MsOk ms → Q (.ref l) H
theorem ok_Coder_models_now (T : Txt K mg) : FnOk P w K mg base CX0 1 T.f_Coder_models_now T.d_Coder_models_now ["self"] (sp_Coder_models_now T) := by
  refine T.F_Coder_models_now.ok sc_Coder_models_now (fun vs H Q E h => ?_) (fun cdv A outer s H vs Q E hr h => ?_)
  · obtain ⟨c, F, s, rfl, _⟩ := h; rfl
  · obtain ⟨c, F, s, rfl, hC, k1, k2⟩ := h
    refine ⟨_, (pss_cons (ps_if (pt_cmpR op_notN (pe_fld (pv 0) rfl) pe_non (nomark _)) (pss_one (ps_ret (pe_fld (pe_fld (pe_fld (pv 0) rfl) rfl) rfl))) pss_nil) (pss_cons (ps_if (pt_cmpR op_notN (pe_fld (pv 0) rfl) pe_non (nomark _)) (pss_one (ps_ret (pe_fld (pe_fld (pe_fld (pv 0) rfl) rfl) rfl))) pss_nil) (pss_one (ps_ret pe_non)))), ?_⟩
    cases s with
    | idle =>
      obtain ⟨⟨dx, ho⟩, _⟩ := id hC
      exact ⟨_, rfl, c, _, dx, _, _, rfl, ho, T.cl_Coder, T.n_Coder_writer, cf_writer _ _, rfl, _, rfl, iteNNF ⟨_, rfl, c, _, dx, _, _, rfl, ho, T.cl_Coder, T.n_Coder_reader, cf_reader _ _, rfl, _, rfl, iteNNF (k1 rfl)⟩⟩
    | putting n ms its =>
      obtain ⟨p, a, l, wl, sl, as, bs, ⟨dx, ho⟩, hW, rfl, hc⟩ := id hC
      obtain ⟨dp, hop⟩ := hW.ob
      obtain ⟨dr, hor⟩ := hW.row.ob
      exact ⟨_, rfl, c, _, dx, _, _, rfl, ho, T.cl_Coder, T.n_Coder_writer, cf_writer _ _, rfl, _, rfl, iteNNT ⟨_, rfl, c, _, dx, _, _, rfl, ho, T.cl_Coder, T.n_Coder_writer, cf_writer _ _, p, _, dp, _, _, rfl, hop, T.cl_Writer, T.n_Writer_row, wf_row _ _, a, _, dr, _, _, rfl, hor, T.cl_Row, T.n_Row_models, rf_models _ _ _ _, k2 _ rfl l as bs hW.row.md hW.row.ok⟩⟩
    | reading r st =>
      obtain ⟨x, tot, ws, wr, ⟨dx, ho⟩, hR, rfl, hc⟩ := id hC
      obtain ⟨dp, hop⟩ := hR.ob
      obtain ⟨dr, hor⟩ := hR.row.ob
      exact ⟨_, rfl, c, _, dx, _, _, rfl, ho, T.cl_Coder, T.n_Coder_writer, cf_writer _ _, rfl, _, rfl, iteNNF ⟨_, rfl, c, _, dx, _, _, rfl, ho, T.cl_Coder, T.n_Coder_reader, cf_reader _ _, rfl, _, rfl, iteNNT ⟨_, rfl, c, _, dx, _, _, rfl, ho, T.cl_Coder, T.n_Coder_reader, cf_reader _ _, x.o, _, dp, _, _, rfl, hop, T.cl_Reader, T.n_Reader_row, rdf_row _ _ _ _ _, x.a, _, dr, _, _, rfl, hor, T.cl_Row, T.n_Row_models, rf_models _ _ _ _, k2 _ rfl x.l x.as x.bs hR.row.md hR.row.ok⟩⟩⟩
def sp_Coder_model (T : Txt K mg) : Sp := fun vs H Q _ => ∃ (c : Addr) (F : List Addr) (s : Coder.State) (i : Nat), vs = [.ref c, iV i] ∧ CoderAt T H c F s ∧ Post T H c F (Coder.step s (.model i)) Q
theorem ok_Coder_model (T : Txt K mg) : FnOk P w K mg base CX0 2 T.f_Coder_model T.d_Coder_model ["self", "k"] (sp_Coder_model T) := by
  refine T.F_Coder_model.ok sc_Coder_model (fun vs H Q E h => ?_) (fun cdv A outer s H vs Q E hr h => ?_)
  · obtain ⟨c, F, s, i, rfl, _⟩ := h; rfl
  · obtain ⟨c, F, s, i, rfl, hC, k⟩ := h
    refine ⟨_, (pss_cons (ps_set (i := 2) sc_Coder_model.nd rfl (Or.inl rfl) (pe_meth0 (pv 0) T.cl_Coder T.me_Coder_models_now (ok_Coder_models_now T) (hr.mono (by decide)) T.b_Coder_models_now .nil pass0)) (pss_cons (ps_if (pt_cmpR op_isN (pv 2) pe_non (nomark _)) (pss_one (ps_ret (pe_lst (pa_cons (pe_gi rfl T.g_NOT_NOW) pa_nil)))) pss_nil) (pss_cons (ps_if (pt_cmpR op_ge (pv 1) (pe_callB call_len_seq (by rfl) T.bl_len PySem.boot_len (pa_cons (pv 2) pa_nil)) (nomark _)) (pss_one (ps_ret (pe_lst (pa_cons (pe_gi rfl T.g_MISSHAPEN) pa_nil)))) pss_nil) (pss_one (ps_ret (pe_call (ok_told_list T) (hr.mono (by decide)) rfl T.m_told_list T.F_told_list.kp T.b_told_list .nil pass0 (pa_cons (pe_fld (pe_ix ix_list (pv 2) (pv 1) (fun _ _ => rfl)) rfl) pa_nil))))))), ?_⟩
    obtain ⟨_, dc, wv, rv, hob⟩ := hC.ob
    have es : Coder.step s (.model i) = (s, match stModels s with | none => Coder.NOT | some ms => Coder.modelTold ms i) := by cases s <;> rfl
    rw [es] at k
    refine ⟨_, rfl, c, dc, _, rfl, hob, rfl, c, F, s, rfl, hC, fun hn => ?_, fun ms hms l as bs hM okm => ?_⟩
    · rw [hn] at k
      exact ⟨_, rfl, rfl, _, rfl, iteNT ⟨(by show 1 ≤ sizeLine; decide), fun l hl => k.stay hC (Same.refl H) hl rfl⟩⟩
    · rw [hms] at k
      have hl : ((as.map V.ref).length : Nat) = ms.length := by rw [List.length_map, hM.la]
      refine ⟨_, rfl, rfl, _, rfl, iteNF ⟨_, rfl, _, rfl, l, _, rfl, .inl (SqL.of hM.lst), _, _, rfl, rfl, _, rfl, iteD (fun h => ?_) (fun h => ?_)⟩⟩
      · rw [hl] at h
        refine ⟨(by show 1 ≤ sizeLine; decide), fun t ht => k.stay hC (Same.refl H) ht ?_⟩
        show _ = ansV (Coder.modelTold ms i)
        unfold Coder.modelTold
        rw [List.getElem?_eq_none (by omega)]
        rfl
      · rw [hl] at h
        have hi : i < ms.length := by omega
        have ex := List.getElem?_eq_getElem hi
        obtain ⟨a1, b1, h1, h2, ⟨dm, h3⟩, h4⟩ := hM.at_ i _ ex
        have n64 := (okm _ (List.getElem_mem hi)).n64
        unfold LwBits.Model.n at n64
        refine ⟨_, rfl, _, rfl, l, _, _, _, rfl, rfl, SqL.of hM.lst, at_of (j := i) rfl (by rw [List.getElem?_map, h1]; rfl), a1, _, dm, _, _, rfl, h3, T.cl_Model, T.n_Model_begins, mf_begins _ _, b1, _, rfl, h4, by omega, fun H1 t s1 ht ht1 => k.stay' hC s1 ht ?_ ?_⟩
        · show H1 t = some (.lst (ansV (Coder.modelTold ms i)))
          unfold Coder.modelTold
          rw [ex]
          show _ = some (HO.lst (ansV (Coder.tells [.l ms[i].begins])))
          rw [ansV_l]
          exact ht1
        · show (ansV (Coder.modelTold ms i)).length ≤ 9000
          unfold Coder.modelTold
          rw [ex]
          show (ansV (Coder.tells [.l ms[i].begins])).length ≤ 9000
          rw [ansV_l, List.length_cons, List.length_cons, nV_len]
          omega
end FB
end
section
namespace FB
open PySem PySem.Spec PyProof.Rows L2 FM
open LwBits (Item Models Want)
open LwBits (Reader)
variable {P : Program} {w : World} {K : PySem.W.Frag} {mg : Str → Option Value} {base : Heap}
theorem mk_free {H : Hp} {p dp y : Addr} {o1 o2 : HO} (h : (upd (upd H dp o1) p o2) y = none) : H y = none := by
  rw [upd_ne (fun z => by rw [z, upd_same] at h; cases h)] at h
  rw [upd_ne (fun z => by rw [z, upd_same] at h; cases h)] at h
  exact h
theorem mk_seq {H : Hp} {p dp q : Addr} {o1 o2 : HO} {xs : List V} (hq : SqL K H q xs) (hp : H p = none) (hdp : H dp = none) : SqL K (upd (upd H dp o1) p o2) q xs := by
  refine sql_kp hq (S := [p, dp]) (fun c o e nn => ?_) fun u e _ z => ?_
  · have nn : c ≠ p ∧ c ≠ dp := by simpa using nn
    rw [upd_ne nn.1, upd_ne nn.2]; exact e
  · have z : q = p ∨ q = dp := by simpa using z
    rcases z with z | z
    · rw [z, hp] at e; cases e
    · rw [z, hdp] at e; cases e
theorem lanes_le {n : Nat} (h : Coder.lanesOk n = true) : 0 < n ∧ n ≤ 16 := by
  unfold Coder.lanesOk at h
  have h : n = 1 ∨ n = 4 ∨ n = 8 ∨ n = 16 := by simpa using h
  omega
theorem msOk_len {l : List Nat} (h : msOk l = true) : l.length ≤ 32 ∧ ∃ ms, Coder.modelsIn l = some ms := by
  unfold msOk at h
  rw [Bool.and_eq_true] at h
  have h1 := of_decide_eq_true h.1
  have h2 := h1.2
  unfold Coder.MODELS at h2
  exact ⟨by omega, Option.isSome_iff_exists.mp h.2⟩
def sp_Coder_begin (T : Txt K mg) : Sp := fun vs H Q _ => ∃ (c : Addr) (F : List Addr) (s : Coder.State) (n : Nat) (q : Addr) (ns : List Nat), vs = [.ref c, iV n, .ref q] ∧ CoderAt T H c F s ∧ SqL K H q (nV ns) ∧ Post T H c F (Coder.step s (.begin_ n ns)) Q
theorem ok_Coder_begin (T : Txt K mg) : FnOk P w K mg base CX0 8 T.f_Coder_begin T.d_Coder_begin ["self", "lanes", "models"] (sp_Coder_begin T) := by
  refine T.F_Coder_begin.ok sc_Coder_begin (fun vs H Q E h => ?_) (fun cdv A outer s H vs Q E hr h => ?_)
  · obtain ⟨c, F, s, n, q, ns, rfl, _⟩ := h; rfl
  · obtain ⟨c, F, s, n, q, ns, rfl, hC, hq, k⟩ := h
    refine ⟨_, (pss_cons (ps_if (pt_not (pt_val (pe_call (ok_row_fits T) (hr.mono (by decide)) rfl T.m_row_fits T.F_row_fits.kp T.b_row_fits .nil pass0 (pa_cons (pv 1) (pa_cons (pv 2) pa_nil))))) (pss_one (ps_ret (pe_lst (pa_cons (pe_gi rfl T.g_MISSHAPEN) pa_nil)))) pss_nil) (pss_cons (ps_fld (pv 0) (pe_make T.mk_Writer (ok_Writer___init__ T) (hr.mono (by decide)) rfl T.mc_Writer T.b_Writer___init__ .nil pass0 (pa_cons (pv 1) (pa_cons (pv 2) pa_nil))) rfl) (pss_cons (ps_fld (pv 0) pe_non rfl) (pss_one (ps_ret (pe_lst (pa_cons pe_int pa_nil))))))), ?_⟩
    have es : Coder.step s (.begin_ n ns) = (match Coder.modelsOk n ns with | none => (s, Coder.BAD) | some ms => (.putting n ms [], Coder.says 0)) := rfl
    rw [es, modelsOk_eq] at k
    refine ⟨_, rfl, _, rfl, n, q, ns, rfl, hq, fun H1 s1 => ⟨_, rfl, iteNB (fun h => ?_) (fun h => ?_)⟩⟩
    · rw [h] at k
      exact ⟨(by show 1 ≤ sizeLine; decide), fun l hl => k.stay hC s1 hl rfl⟩
    · rw [h, if_pos rfl] at k
      rw [Bool.and_eq_true] at h
      obtain ⟨h0, h16⟩ := lanes_le h.1
      obtain ⟨hl, ms, hms⟩ := msOk_len h.2
      rw [hms] at k
      obtain ⟨hcF, dc, wv, rv, hob⟩ := hC.ob
      have hob1 := s1 _ _ hob
      refine ⟨_, rfl, _, rfl, fun p dp hp hdp hne => ⟨p, dp, q, n, ns, ms, rfl, upd_same, mk_seq (s1.seq hq) hp hdp, hl, hms, h0, h16, fun H2 a l wl sl as bs hW fr kp => ⟨rfl, ?_⟩⟩⟩
      have s2 : Same H1 H2 := Same.made hp hdp fun b o e nn => kp b o e (by simpa using nn)
      have hob2 := s2 _ _ hob1
      have fr2 : ∀ y ∈ p :: sl :: a :: l :: wl :: (as ++ bs), H1 y = none := fun y hy => by
        rcases List.mem_cons.mp hy with z | hy
        · rw [z]; exact hp
        · exact mk_free (fr y hy)
      have ncF : c ∉ p :: sl :: a :: l :: wl :: (as ++ bs) := fun z => by have := fr2 c z; rw [hob1] at this; cases this
      refine ⟨_, rfl, c, _, dc, _, rfl, hob2, T.cl_Coder, T.n_Coder_writer, (by show 2 < 1000; decide), ?_⟩
      refine ⟨_, rfl, c, _, dc, _, rfl, upd_same, T.cl_Coder, T.n_Coder_reader, (by show 2 < 1000; decide), ?_⟩
      rw [upd_upd]
      have kp3 : Kp [c] H2 (upd H2 c (.ins T.C_Coder dc (cf (.ref p) .non))) := Kp.upd
      have hW3 := hW.kp kp3 (fun y hy => by simpa using fun z : y = c => ncF (z ▸ hy)) (fun y hy vs e => by
        have hy : y = c := by simpa using hy
        rw [hy, hob2] at e; cases e)
      refine ⟨(by show 1 ≤ sizeLine; decide), fun t ht => ?_⟩
      have s4 := Same.new (o := .lst [V.int 0]) ht
      have htc : t ≠ c := fun z => by rw [z] at ht; exact absurd ht (by show (upd H2 c _) c ≠ none; rw [upd_same]; simp)
      have ht2 : H2 t = none := by
        have : (upd H2 c (.ins T.C_Coder dc (cf (.ref p) .non))) t = none := ht
        rw [upd_ne htc] at this; exact this
      have sH : Same H H2 := s1.trans s2
      refine k _ (c :: p :: sl :: a :: l :: wl :: (as ++ bs)) t ⟨p, a, l, wl, sl, as, bs, ⟨dc, s4 _ _ upd_same⟩, hW3.same s4, rfl, ncF⟩ (fun z hz => ?_) (fun d o e nn => s4 _ _ (kp3 _ _ (sH _ _ e) (by simpa using fun z : d = c => nn (z ▸ hcF)))) (.inr (sH.free ht2)) (fun z => ?_) upd_same (Nat.le_of_ble_eq_true rfl)
      · rcases List.mem_cons.mp hz with z' | hz
        · rw [z']; exact .inl hcF
        · exact .inr (s1.free (fr2 z hz))
      · rcases List.mem_cons.mp z with z' | z
        · exact htc z'
        · exact (hW.tr t z).1 ht2
def sp_Coder_get (T : Txt K mg) : Sp := fun vs H Q _ => ∃ (c : Addr) (F : List Addr) (s : Coder.State) (q : Addr) (ns : List Nat), vs = [.ref c, .ref q] ∧ CoderAt T H c F s ∧ SqL K H q (nV ns) ∧ ns.length ≤ 5000 ∧ Post T H c F (Coder.step s (.get ns)) Q
theorem readAll_len : ∀ (ts : List (Nat × Nat)) (r : Reader), (Coder.readAll r ts).1.length ≤ ts.length
  | [], r => Nat.le_refl _
  | x :: l, r => by
    unfold Coder.readAll
    cases Coder.readOne r x.1 x.2 with
    | none => simp
    | some y => simpa using readAll_len l y.2
theorem wantsIn_len {ms : Models} {ns : List Nat} {ts : List (Nat × Nat)} (h : Coder.wantsIn ms ns = some ts) : ts.length ≤ ns.length := by
  by_cases h1 : ns.length % 2 = 1
  · rw [wantsIn_odd ms _ ns rfl h1] at h; cases h
  · obtain ⟨t2, e, hl⟩ := flat2_of (ns.length / 2) ns (by omega)
    rw [e, wantsIn_flat2] at h
    split at h
    · cases h; omega
    · cases h
theorem ok_Coder_get (T : Txt K mg) : FnOk P w K mg base CX0 8 T.f_Coder_get T.d_Coder_get ["self", "numbers"] (sp_Coder_get T) := by
  refine T.F_Coder_get.ok sc_Coder_get (fun vs H Q E h => ?_) (fun cdv A outer s H vs Q E hr h => ?_)
  · obtain ⟨c, F, s, q, ns, rfl, _⟩ := h; rfl
  · obtain ⟨c, F, s, q, ns, rfl, hC, hq, hlen, k⟩ := h
    refine ⟨_, (pss_cons (ps_if (pt_cmpR op_isN (pe_fld (pv 0) rfl) pe_non (nomark _)) (pss_one (ps_ret (pe_lst (pa_cons (pe_gi rfl T.g_NOT_NOW) pa_nil)))) pss_nil) (pss_cons (ps_if (pt_not (pt_val (pe_call (ok_kinds_fit T) (hr.mono (by decide)) rfl T.m_kinds_fit T.F_kinds_fit.kp T.b_kinds_fit .nil pass0 (pa_cons (pv 1) (pa_cons (pe_fld (pe_fld (pe_fld (pv 0) rfl) rfl) rfl) pa_nil))))) (pss_one (ps_ret (pe_lst (pa_cons (pe_gi rfl T.g_MISSHAPEN) pa_nil)))) pss_nil) (pss_one (ps_ret (pe_call (ok_told_list T) (hr.mono (by decide)) rfl T.m_told_list T.F_told_list.kp T.b_told_list .nil pass0 (pa_cons (pe_meth (pe_fld (pv 0) rfl) T.cl_Reader T.me_Reader_read (ok_Reader_read T) (hr.mono (by decide)) T.b_Reader_read .nil pass0 (pa_cons (pv 1) pa_nil)) pa_nil)))))), ?_⟩
    cases s with
    | idle =>
      obtain ⟨⟨dx, ho⟩, _⟩ := id hC
      exact ⟨_, rfl, c, _, dx, _, _, rfl, ho, T.cl_Coder, T.n_Coder_reader, cf_reader _ _, rfl, _, rfl, iteNT ⟨(by show 1 ≤ sizeLine; decide), fun l hl => k.stay hC (Same.refl H) hl rfl⟩⟩
    | putting n ms its =>
      obtain ⟨p, a, l, wl, sl, as, bs, ⟨dx, ho⟩, hW, rfl, hc⟩ := id hC
      exact ⟨_, rfl, c, _, dx, _, _, rfl, ho, T.cl_Coder, T.n_Coder_reader, cf_reader _ _, rfl, _, rfl, iteNT ⟨(by show 1 ≤ sizeLine; decide), fun l hl => k.stay hC (Same.refl H) hl rfl⟩⟩
    | reading r st =>
      obtain ⟨x, tot, ws, wr, ⟨dx, ho⟩, hR, rfl, hc⟩ := id hC
      obtain ⟨dp, hop⟩ := hR.ob
      obtain ⟨dr, hor⟩ := hR.row.ob
      have es : Coder.step (.reading r st) (.get ns) = (match Coder.wantsIn r.models ns with
        | none => (.reading r st, Coder.BAD)
        | some w => if st = true then (.reading r st, Coder.tells [.l []]) else (.reading (Coder.readAll r w).2.1 (Coder.readAll r w).2.2, Coder.tells [.l (Coder.readAll r w).1])) := rfl
      rw [es] at k
      refine ⟨_, rfl, c, _, dx, _, _, rfl, ho, T.cl_Coder, T.n_Coder_reader, cf_reader _ _, rfl, _, rfl, iteNF ?_⟩
      refine ⟨_, rfl, _, rfl, c, _, dx, _, _, rfl, ho, T.cl_Coder, T.n_Coder_reader, cf_reader _ _, x.o, _, dp, _, _, rfl, hop, T.cl_Reader, T.n_Reader_row, rdf_row _ _ _ _ _, x.a, _, dr, _, _, rfl, hor, T.cl_Row, T.n_Row_models, rf_models _ _ _ _,
        q, x.l, ns, r.models, x.as, x.bs, rfl, hq, hR.row.md, hlen, fun H1 s1 => ⟨_, rfl, iteNB (fun h => ?_) (fun h => ?_)⟩⟩
      · have hn : Coder.wantsIn r.models ns = none := by
          cases e : Coder.wantsIn r.models ns with
          | none => rfl
          | some y => rw [e] at h; cases h
        rw [hn] at k
        exact ⟨(by show 1 ≤ sizeLine; decide), fun l hl => k.stay hC s1 hl rfl⟩
      · obtain ⟨ts, hts⟩ := Option.isSome_iff_exists.mp h
        rw [hts] at k
        have k : Post T H c (c :: x.all) (.reading (gotAll st r ts).2.1 (gotAll st r ts).2.2, Coder.tells [.l (gotAll st r ts).1]) Q := by
          unfold gotAll
          cases st with
          | true => exact k
          | false => exact k
        have ho1 := s1 _ _ ho
        have hR1 := hR.same s1
        obtain ⟨dp1, hop1⟩ := hR1.ob
        refine ⟨_, rfl, c, _, dx, _, _, rfl, ho1, T.cl_Coder, T.n_Coder_reader, cf_reader _ _, x.o, dp1, _, rfl, hop1, rfl, _, rfl, x, tot, ws, wr, r, st, q, ns, ts, rfl, hR1, s1.seq hq, hts, hlen, fun H2 x2 tot2 wr2 p hR2 hx2 sub kp2 hp np hp2 => ?_⟩
        have hvl : (gotAll st r ts).1.length ≤ 5000 := by
          have h1 := wantsIn_len hts
          have h2 := readAll_len ts r
          unfold gotAll
          cases st with
          | true => simp
          | false => simp; omega
        refine ⟨p, _, rfl, hp2, by omega, fun H3 t s3 ht ht3 => ?_⟩
        have ncm : c ∉ x.mut := fun z => hc (RA.mut_sub c z)
        have ho2 := kp2 _ _ ho1 ncm
        have nc2 : c ∉ x2.all := fun z => by
          rcases sub c z with q1 | q1
          · exact hc q1
          · rw [ho1] at q1; cases q1
        have hHt : t ∈ c :: x.all ∨ H t = none := by
          cases e : H t with
          | none => exact .inr rfl
          | some o =>
            by_cases z : t ∈ x.mut
            · exact .inl (List.mem_cons_of_mem _ (RA.mut_sub t z))
            · rw [kp2 _ _ (s1 _ _ e) z] at ht; cases ht
        refine k H3 (c :: x2.all) t ⟨x2, tot2, ws, wr2, ⟨dx, by rw [hx2]; exact s3 _ _ ho2⟩, hR2.same s3, rfl, nc2⟩ (fun z hz => ?_) (fun d o e nn => s3 _ _ (kp2 _ _ (s1 _ _ e) fun z => nn (List.mem_cons_of_mem _ (RA.mut_sub d z)))) hHt (fun z => ?_) ?_ ?_
        · rcases List.mem_cons.mp hz with z' | hz
          · rw [z']; exact .inl (by simp)
          · rcases sub z hz with q1 | q1
            · exact .inl (List.mem_cons_of_mem _ q1)
            · exact .inr (s1.free q1)
        · rcases List.mem_cons.mp z with z' | z
          · rw [z', ho2] at ht; cases ht
          · exact (hR2.tr t z).1 ht
        · rw [ansV_l]
          exact ht3
        · rw [ansV_l, List.length_cons, List.length_cons, nV_len]
          omega
def sp_Coder_put (T : Txt K mg) : Sp := fun vs H Q _ => ∃ (c : Addr) (F : List Addr) (s : Coder.State) (q : Addr) (ns : List Nat), vs = [.ref c, .ref q] ∧ CoderAt T H c F s ∧ SqL K H q (nV ns) ∧ ns.length ≤ 5000 ∧ Post T H c F (Coder.step s (.put ns)) Q
theorem ok_Coder_put (T : Txt K mg) : FnOk P w K mg base CX0 6 T.f_Coder_put T.d_Coder_put ["self", "numbers"] (sp_Coder_put T) := by
  refine T.F_Coder_put.ok sc_Coder_put (fun vs H Q E h => ?_) (fun cdv A outer s H vs Q E hr h => ?_)
  · obtain ⟨c, F, s, q, ns, rfl, _⟩ := h; rfl
  · obtain ⟨c, F, s, q, ns, rfl, hC, hq, hlen, k⟩ := h
    refine ⟨_, (pss_cons (ps_if (pt_cmpR op_isN (pe_fld (pv 0) rfl) pe_non (nomark _)) (pss_one (ps_ret (pe_lst (pa_cons (pe_gi rfl T.g_NOT_NOW) pa_nil)))) pss_nil) (pss_cons (ps_set (i := 2) sc_Coder_put.nd rfl (Or.inl rfl) (pe_fld (pe_fld (pv 0) rfl) rfl)) (pss_cons (ps_if (pt_not (pt_val (pe_call (ok_items_fit T) (hr.mono (by decide)) rfl T.m_items_fit T.F_items_fit.kp T.b_items_fit .nil pass0 (pa_cons (pv 1) (pa_cons (pe_fld (pv 2) rfl) pa_nil))))) (pss_one (ps_ret (pe_lst (pa_cons (pe_gi rfl T.g_MISSHAPEN) pa_nil)))) pss_nil) (pss_cons (ps_set (i := 3) sc_Coder_put.nd rfl (Or.inl rfl) (pe_call (ok_all_pieces T) (hr.mono (by decide)) rfl T.m_all_pieces T.F_all_pieces.kp T.b_all_pieces .nil pass0 (pa_cons (pv 1) pa_nil))) (pss_cons (ps_if (pt_cmpR op_gt (pe_op op_add (pe_fld (pv 2) rfl) (pe_callB call_len_seq (by rfl) T.bl_len PySem.boot_len (pa_cons (pv 3) pa_nil))) (pe_gi rfl T.g_MOST_PIECES) (nomark _)) (pss_one (ps_ret (pe_lst (pa_cons (pe_gi rfl T.g_TOO_MANY) pa_nil)))) pss_nil) (pss_cons (ps_expr (pe_meth (pe_fld (pv 0) rfl) T.cl_Writer T.me_Writer_write (ok_Writer_write T) (hr.mono (by decide)) T.b_Writer_write .nil pass0 (pa_cons (pv 3) pa_nil))) (pss_one (ps_ret (pe_lst (pa_cons (pe_fld (pv 2) rfl) pa_nil)))))))))), ?_⟩
    cases s with
    | idle =>
      obtain ⟨⟨dx, ho⟩, _⟩ := id hC
      exact ⟨_, rfl, c, _, dx, _, _, rfl, ho, T.cl_Coder, T.n_Coder_writer, cf_writer _ _, rfl, _, rfl, iteNT ⟨(by show 1 ≤ sizeLine; decide), fun l hl => k.stay hC (Same.refl H) hl rfl⟩⟩
    | reading r st =>
      obtain ⟨x, tot, ws, wr, ⟨dx, ho⟩, hR, rfl, hc⟩ := id hC
      exact ⟨_, rfl, c, _, dx, _, _, rfl, ho, T.cl_Coder, T.n_Coder_writer, cf_writer _ _, rfl, _, rfl, iteNT ⟨(by show 1 ≤ sizeLine; decide), fun l hl => k.stay hC (Same.refl H) hl rfl⟩⟩
    | putting n ms its =>
      obtain ⟨p, a, l, wl, sl, as, bs, ⟨dx, ho⟩, hW, rfl, hc⟩ := id hC
      obtain ⟨dp, hop⟩ := hW.ob
      obtain ⟨dr, hor⟩ := hW.row.ob
      have es : Coder.step (.putting n ms its) (.put ns) = (match Coder.itemsIn ms ns with
        | none => (.putting n ms its, Coder.BAD)
        | some a => if Coder.ITEMS < its.length + a.length then (.putting n ms its, Coder.MANY) else (.putting n ms (its ++ a), Coder.says ((its.length + a.length : Nat) : Int))) := rfl
      rw [es] at k
      have eit : Coder.itemsIn (Coder.modelsNow n ms its) ns = Coder.itemsIn ms ns := itemsIn_shp (modelsNow_shp n ms its) _ ns (Nat.le_refl _)
      refine ⟨_, rfl, c, _, dx, _, _, rfl, ho, T.cl_Coder, T.n_Coder_writer, cf_writer _ _, rfl, _, rfl, iteNF ?_⟩
      refine ⟨_, rfl, c, _, dx, _, _, rfl, ho, T.cl_Coder, T.n_Coder_writer, cf_writer _ _, p, _, dp, _, _, rfl, hop, T.cl_Writer, T.n_Writer_row, wf_row _ _, ?_⟩
      refine ⟨_, rfl, _, rfl, a, _, dr, _, _, rfl, hor, T.cl_Row, T.n_Row_models, rf_models _ _ _ _, q, l, ns, _, as, bs, rfl, hq, hW.row.md, fun H1 s1 => ⟨_, rfl, iteNB (fun h => ?_) (fun h => ?_)⟩⟩
      · have h : (Coder.itemsIn (Coder.modelsNow n ms its) ns).isSome = false := h
        rw [eit] at h
        have hn : Coder.itemsIn ms ns = none := by
          cases e : Coder.itemsIn ms ns with
          | none => rfl
          | some y => rw [e] at h; cases h
        rw [hn] at k
        exact ⟨(by show 1 ≤ sizeLine; decide), fun t ht => k.stay hC s1 ht rfl⟩
      · have h : (Coder.itemsIn (Coder.modelsNow n ms its) ns).isSome = true := h
        rw [eit] at h
        obtain ⟨new, hnew⟩ := Option.isSome_iff_exists.mp h
        rw [hnew] at k
        refine ⟨_, rfl, q, ns, ms, new, rfl, s1.seq hq, hlen, hnew, fun H2 z s2 hz hzt => ?_⟩
        have sH := s1.trans s2
        have hor2 := sH _ _ hor
        obtain ⟨rs, hzl, hts⟩ := id hzt
        have hrl : ((rs.map V.ref).length : Nat) = new.length := by rw [List.length_map, hts.len, List.length_map]
        refine ⟨_, rfl, a, _, dr, _, _, rfl, hor2, T.cl_Row, T.n_Row_total, rf_total _ _ _ _, _, rfl, z, _, rfl, .inl (SqL.of hzl), _, _, rfl, rfl, _, _, rfl, rfl, _, rfl, iteD (fun hm => ?_) (fun hm => ?_)⟩
        · rw [hrl] at hm
          have hm : (1000 : Int) < ((its.length : Nat) : Int) + ((new.length : Nat) : Int) := hm
          have hm' : Coder.ITEMS < its.length + new.length := by unfold Coder.ITEMS; omega
          dsimp only at k
          rw [if_pos hm'] at k
          exact ⟨(by show 1 ≤ sizeLine; decide), fun t ht => k.stay hC sH ht rfl⟩
        · rw [hrl] at hm
          have hm : ¬ (1000 : Int) < ((its.length : Nat) : Int) + ((new.length : Nat) : Int) := hm
          have hm' : ¬ Coder.ITEMS < its.length + new.length := by unfold Coder.ITEMS; omega
          dsimp only at k
          rw [if_neg hm'] at k
          have ho2 := sH _ _ ho
          have hW2 := hW.same sH
          obtain ⟨dp2, hop2⟩ := hW2.ob
          have nz : z ∉ p :: sl :: a :: l :: wl :: (as ++ bs) := fun e => (hW.tr z e).1 (s1.free hz)
          refine ⟨_, rfl, c, _, dx, _, _, rfl, ho2, T.cl_Coder, T.n_Coder_writer, cf_writer _ _, p, dp2, _, rfl, hop2, rfl, _, rfl, p, a, l, wl, sl, z, as, bs, n, ms, its, new, rfl, hW2, hzt, nz, itemsIn_ok2 _ ns new (Nat.le_refl _) hnew, by unfold Coder.ITEMS at hm'; omega, fun H3 wl3 hW3 hwl3 kp3 => ?_⟩
          have memF : ∀ y, y ∈ sl :: a :: wl :: (as ++ bs) → y ∈ p :: sl :: a :: l :: wl :: (as ++ bs) := fun y hy => by
            rcases List.mem_cons.mp hy with e | hy
            · simp [e]
            rcases List.mem_cons.mp hy with e | hy
            · simp [e]
            rcases List.mem_cons.mp hy with e | hy
            · simp [e]
            · simp only [List.mem_cons]; exact .inr (.inr (.inr (.inr (.inr hy))))
          have ho3 := kp3 _ _ ho2 fun e => hc (memF _ e)
          obtain ⟨dr3, hor3⟩ := hW3.row.ob
          refine ⟨_, rfl, a, _, dr3, _, _, rfl, hor3, T.cl_Row, T.n_Row_total, rf_total _ _ _ _, (by show 1 ≤ sizeLine; decide), fun t ht => ?_⟩
          have s4 := Same.new (o := .lst [iV (putS n ms (its ++ new)).total]) ht
          have nc3 : c ∉ p :: sl :: a :: l :: wl3 :: (as ++ bs) := fun e => by
            simp only [List.mem_cons, not_or] at hc
            simp only [List.mem_cons] at e
            rcases e with e | e | e | e | e | e
            · exact hc.1 e
            · exact hc.2.1 e
            · exact hc.2.2.1 e
            · exact hc.2.2.2.1 e
            · rcases hwl3 with q1 | q1
              · exact hc.2.2.2.2.1 (e.trans q1)
              · rw [← e, ho2] at q1; cases q1
            · exact hc.2.2.2.2.2 e
          have htF : t ∈ c :: p :: sl :: a :: l :: wl :: (as ++ bs) ∨ H t = none := by
            cases e : H t with
            | none => exact .inr rfl
            | some o =>
              by_cases zz : t ∈ sl :: a :: wl :: (as ++ bs)
              · exact .inl (List.mem_cons_of_mem _ (memF _ zz))
              · rw [kp3 _ _ (sH _ _ e) zz] at ht; cases ht
          refine k _ (c :: p :: sl :: a :: l :: wl3 :: (as ++ bs)) t ⟨p, a, l, wl3, sl, as, bs, ⟨dx, s4 _ _ ho3⟩, hW3.same s4, rfl, nc3⟩ (fun y hy => ?_) (fun d o e nn => s4 _ _ (kp3 _ _ (sH _ _ e) fun zz => nn (List.mem_cons_of_mem _ (memF _ zz)))) htF (fun zz => ?_) ?_ (Nat.le_of_ble_eq_true rfl)
          · simp only [List.mem_cons] at hy ⊢
            rcases hy with e | e | e | e | e | e | e
            · exact .inl (.inl e)
            · exact .inl (.inr (.inl e))
            · exact .inl (.inr (.inr (.inl e)))
            · exact .inl (.inr (.inr (.inr (.inl e))))
            · exact .inl (.inr (.inr (.inr (.inr (.inl e)))))
            · rcases hwl3 with q1 | q1
              · exact .inl (.inr (.inr (.inr (.inr (.inr (.inl (e.trans q1)))))))
              · exact .inr (by rw [e]; exact sH.free q1)
            · exact .inl (.inr (.inr (.inr (.inr (.inr (.inr e))))))
          · rcases List.mem_cons.mp zz with e | zz
            · rw [e, ho3] at ht; cases ht
            · exact (hW3.tr t zz).1 ht
          · rw [upd_same]
            show some (HO.lst [iV (its ++ new).length]) = some (HO.lst (ansV (Coder.says ((its.length + new.length : Nat) : Int))))
            rw [List.length_append]
            rfl
end FB
end
section
namespace FB
open PySem PySem.Spec PyProof.Rows L2 FM
open LwBits (Item Models Want)
open LwBits (Reader)
variable {P : Program} {w : World} {K : PySem.W.Frag} {mg : Str → Option Value} {base : Heap}
theorem openFault_nat {n : Nat} {os : List Nat} (h : ∀ x ∈ os, x ≤ 255) : Coder.openFault n (os.map UInt8.ofNat) = faultN n os := by
  unfold Coder.openFault faultN
  have e : ∀ i, LwBits.ofLe (((os.map UInt8.ofNat).drop (4 * i)).take 4) = fromN ((os.drop (4 * i)).take 4) := fun i => by
    rw [ofLe_nat]
    congr 1
    rw [List.map_take, List.map_drop]
    have := bytesN_of h
    unfold bytesN at this
    rw [this]
  simp only [e, List.length_map]
  rfl
theorem opened_nat {n c : Nat} {os : List Nat} (ms : Models) (h : ∀ x ∈ os, x ≤ 255) (hf : faultN n os = none) (hc : os.length = 4 * n + 2 * c) :
    LwBits.opened n ms (os.map UInt8.ofNat) = some ⟨n, numsN os 4 n, numsN (os.drop (4 * n)) 2 c, ms, []⟩ := by
  unfold LwBits.opened
  have hb := bytesN_of h
  have e1 := states_nat n (os.map UInt8.ofNat)
  rw [hb] at e1
  have e2 := pairs_nat c ((os.map UInt8.ofNat).drop (4 * n)) (by rw [List.length_drop, List.length_map]; omega)
  have e3 : bytesN ((os.map UInt8.ofNat).drop (4 * n)) = os.drop (4 * n) := by
    unfold bytesN
    rw [List.map_drop]
    unfold bytesN at hb
    rw [hb]
  rw [e3] at e2
  dsimp only
  rw [e1, e2, if_pos]
  refine ⟨by rw [List.length_map]; omega, by rw [List.length_map]; omega, ?_⟩
  rw [List.all_eq_true]
  intro x hx
  unfold faultN at hf
  rw [if_neg (by omega)] at hf
  cases hfi : (List.range n).find? fun i => decide (fromN ((os.drop (4 * i)).take 4) < LwBits.LOW) with
  | some i => rw [hfi] at hf; cases hf
  | none =>
    rw [List.find?_eq_none] at hfi
    unfold numsN at hx
    obtain ⟨i, hi, rfl⟩ := List.mem_map.mp hx
    have := hfi i hi
    simpa using this
theorem faultN_none {n : Nat} {os : List Nat} (h : faultN n os = none) : 4 * n ≤ os.length ∧ os.length % 2 = 0 := by
  unfold faultN at h
  by_cases h1 : os.length < 4 * n
  · rw [if_pos h1] at h; cases h
  · rw [if_neg h1] at h
    cases hfi : (List.range n).find? fun i => decide (fromN ((os.drop (4 * i)).take 4) < LwBits.LOW) with
    | some i => rw [hfi] at h; cases h
    | none =>
      rw [hfi] at h
      dsimp only at h
      by_cases h2 : os.length % 2 = 1
      · rw [if_pos h2] at h; cases h
      · omega
theorem iteNNI {i : Int} {A B : Prop} (h : A) : if (!decide (V.int i = V.non)) = true then A else B := by rw [if_pos (by simp)]; exact h
def sp_Coder_open_row (T : Txt K mg) : Sp := fun vs H Q _ => ∃ (c : Addr) (F : List Addr) (s : Coder.State) (n : Nat) (q : Addr) (ns : List Nat) (q2 : Addr) (os : List Nat), vs = [.ref c, iV n, .ref q, .ref q2] ∧ CoderAt T H c F s ∧ SqL K H q (nV ns) ∧ SqL K H q2 (nV os) ∧ q ≠ c ∧ q2 ≠ c ∧ (∀ x ∈ os, x ≤ 255) ∧ os.length ≤ 5000 ∧ Post T H c F (Coder.step s (.open_ n ns (os.map UInt8.ofNat))) Q
theorem ok_Coder_open_row (T : Txt K mg) : FnOk P w K mg base CX0 8 T.f_Coder_open_row T.d_Coder_open_row ["self", "lanes", "models", "octets"] (sp_Coder_open_row T) := by
  refine T.F_Coder_open_row.ok sc_Coder_open_row (fun vs H Q E h => ?_) (fun cdv A outer s H vs Q E hr h => ?_)
  · obtain ⟨c, F, s, n, q, ns, q2, os, rfl, _⟩ := h; rfl
  · obtain ⟨c, F, s, n, q, ns, q2, os, rfl, hC, hq, hq2, nq, nq2, hby, hlen, k⟩ := h
    refine ⟨_, (pss_cons (ps_if (PW.pt (pw_or (pt_not (pt_val (pe_call (ok_row_fits T) (hr.mono (by decide)) rfl T.m_row_fits T.F_row_fits.kp T.b_row_fits .nil pass0 (pa_cons (pv 1) (pa_cons (pv 2) pa_nil))))) (pw_or1 (pt_cmpR op_gt (pe_callB call_len_seq (by rfl) T.bl_len PySem.boot_len (pa_cons (pv 3) pa_nil)) (pe_gi rfl T.g_MOST_BYTES) (nomark _))))) (pss_one (ps_ret (pe_lst (pa_cons (pe_gi rfl T.g_MISSHAPEN) pa_nil)))) pss_nil) (pss_cons (ps_set (i := 4) sc_Coder_open_row.nd rfl (Or.inl rfl) (pe_call (ok_fault_place T) (hr.mono (by decide)) rfl T.m_fault_place T.F_fault_place.kp T.b_fault_place .nil pass0 (pa_cons (pv 3) (pa_cons (pv 1) pa_nil)))) (pss_cons (ps_if (pt_cmpR op_notN (pv 4) pe_non (nomark _)) (pss_one (ps_ret (pe_lst (pa_cons (pe_gi rfl T.g_UNREADABLE) (pa_cons (pv 4) pa_nil))))) pss_nil) (pss_cons (ps_fld (pv 0) pe_non rfl) (pss_cons (ps_fld (pv 0) (pe_make T.mk_Reader (ok_Reader___init__ T) (hr.mono (by decide)) rfl T.mc_Reader T.b_Reader___init__ .nil pass0 (pa_cons (pv 1) (pa_cons (pv 2) (pa_cons (pv 3) pa_nil)))) rfl) (pss_one (ps_ret (pe_lst (pa_cons pe_int pa_nil))))))))), ?_⟩
    have es : Coder.step s (.open_ n ns (os.map UInt8.ofNat)) = (match Coder.modelsOk n ns with
      | none => (s, Coder.BAD)
      | some ms => if Coder.BYTES < (os.map UInt8.ofNat).length then (s, Coder.BAD) else match Coder.openFault n (os.map UInt8.ofNat), LwBits.opened n ms (os.map UInt8.ofNat) with
        | none, some r => (.reading r false, Coder.says 0)
        | some p, _ => (s, ⟨-8, [.n p]⟩)
        | none, none => (s, Coder.BAD)) := rfl
    rw [es, modelsOk_eq, List.length_map] at k
    refine ⟨_, rfl, _, rfl, n, q, ns, rfl, hq, fun H1 s1 => ⟨_, rfl, iteNB (fun h => ?_) (fun h => ?_)⟩⟩
    · rw [h] at k
      exact iteT ⟨(by show 1 ≤ sizeLine; decide), fun l hl => k.stay hC s1 hl rfl⟩
    · rw [h, if_pos rfl] at k
      rw [Bool.and_eq_true] at h
      obtain ⟨h0, h16⟩ := lanes_le h.1
      obtain ⟨hl, ms, hms⟩ := msOk_len h.2
      rw [hms] at k
      dsimp only at k
      refine ⟨_, rfl, q2, _, rfl, .inl (s1.seq hq2), _, _, rfl, rfl, _, rfl, ?_⟩
      by_cases hb : 4000 < os.length
      · dsimp only
        rw [if_pos (by rw [nV_len]; exact decide_eq_true (by omega))]
        have hb' : Coder.BYTES < os.length := hb
        rw [if_pos hb'] at k
        exact ⟨(by show 1 ≤ sizeLine; decide), fun l hl => k.stay hC s1 hl rfl⟩
      · dsimp only
        rw [if_neg (by rw [nV_len]; simp; omega)]
        have hb' : ¬ Coder.BYTES < os.length := hb
        rw [if_neg hb', openFault_nat hby] at k
        refine ⟨_, rfl, _, rfl, q2, os, n, rfl, s1.seq hq2, h16, fun H2 s2 => ?_⟩
        have sH := s1.trans s2
        cases hf : faultN n os with
        | some z =>
          rw [hf] at k
          exact ⟨_, rfl, rfl, _, rfl, iteNNI ⟨_, rfl, (by show 2 ≤ sizeLine; decide), fun l hl => k.stay hC sH hl rfl⟩⟩
        | none =>
          rw [hf] at k
          obtain ⟨f1, f2⟩ := faultN_none hf
          obtain ⟨cc, hcc⟩ : ∃ cc, os.length = 4 * n + 2 * cc := ⟨(os.length - 4 * n) / 2, by omega⟩
          rw [opened_nat ms hby hf hcc] at k
          obtain ⟨hcF, dc, wv, rv, hob⟩ := hC.ob
          have hob2 := sH _ _ hob
          refine ⟨_, rfl, rfl, _, rfl, iteNNF ?_⟩
          refine ⟨_, rfl, c, _, dc, _, rfl, hob2, T.cl_Coder, T.n_Coder_writer, (by show 2 < 1000; decide), ?_⟩
          have kp3 : Kp [c] H2 (upd H2 c (.ins T.C_Coder dc (cf .non rv))) := Kp.upd
          have hq3 := sql_kp (sH.seq hq) kp3 fun u _ _ => by simpa using nq
          have hq23 := sql_kp (sH.seq hq2) kp3 fun u _ _ => by simpa using nq2
          refine ⟨_, rfl, _, rfl, _, rfl, fun p dp hp hdp hne => ⟨p, dp, q, q2, n, ns, os, ms, cc, rfl, upd_same, mk_seq hq3 hp hdp, hl, hms, h0, h16, mk_seq hq23 hp hdp, hcc, by omega, fun H4 x hx hR fr kp => ⟨rfl, ?_⟩⟩⟩
          have s4 : Same (upd H2 c (.ins T.C_Coder dc (cf .non rv))) H4 := Same.made hp hdp fun b o e nn => kp b o e (by simpa using nn)
          have hob4 := s4 _ _ upd_same
          have fr2 : ∀ y ∈ x.all, (upd H2 c (.ins T.C_Coder dc (cf .non rv))) y = none := fun y hy => by
            rcases fr y hy with z | z
            · rw [z]; exact hp
            · exact mk_free z
          have ncF : c ∉ x.all := fun z => by have := fr2 c z; rw [upd_same] at this; cases this
          refine ⟨_, rfl, c, _, dc, _, rfl, hob4, T.cl_Coder, T.n_Coder_reader, (by show 2 < 1000; decide), ?_⟩
          have kp5 : Kp [c] H4 (upd H4 c (.ins T.C_Coder dc (cf .non (.ref p)))) := Kp.upd
          have hR5 := hR.kp kp5 (fun y hy => by simpa using fun z : y = c => ncF (z ▸ hy)) (fun y hy vs e => by
            have hy : y = c := by simpa using hy
            rw [hy, hob4] at e; cases e)
          refine ⟨(by show 1 ≤ sizeLine; decide), fun t ht => ?_⟩
          have ht : (upd H4 c (.ins T.C_Coder dc (cf .non (.ref p)))) t = none := ht
          have s6 := Same.new (o := .lst [V.int 0]) ht
          have htc : t ≠ c := fun z => by rw [z, upd_same] at ht; cases ht
          have ht4 : H4 t = none := by rw [upd_ne htc] at ht; exact ht
          have ht2 : H2 t = none := by
            have := s4.free ht4
            rw [upd_ne htc] at this; exact this
          refine k _ (c :: x.all) t ⟨x, 0, _, 0, ⟨dc, by rw [hx]; exact s6 _ _ upd_same⟩, hR5.same s6, rfl, ncF⟩ (fun z hz => ?_) (fun d o e nn => ?_) (.inr (sH.free ht2)) (fun z => ?_) upd_same (Nat.le_of_ble_eq_true rfl)
          · rcases List.mem_cons.mp hz with z' | hz
            · rw [z']; exact .inl hcF
            · refine .inr (sH.free ?_)
              have := fr2 z hz
              rw [upd_ne (fun z' : z = c => ncF (z' ▸ hz))] at this
              exact this
          · have ndc : d ≠ c := fun z => nn (z ▸ hcF)
            exact s6 _ _ (kp5 _ _ (s4 _ _ (kp3 _ _ (sH _ _ e) (by simpa using ndc))) (by simpa using ndc))
          · rcases List.mem_cons.mp z with z' | z
            · exact htc z'
            · exact (hR.tr t z).1 ht4
def kf (q : Addr) (pl : Nat) : List (Str × V) := [("numbers", .ref q), ("place", iV pl)]
theorem kf_numbers (q : Addr) (pl : Nat) : (kf q pl).lookup ("numbers" : Str) = some (.ref q) := rfl
theorem kf_place (q : Addr) (pl : Nat) : (kf q pl).lookup ("place" : Str) = some (iV pl) := rfl
def WalkAt (T : Txt K mg) (H : Hp) (wk q : Addr) (pl : Nat) : Prop := ∃ dx, H wk = some (.ins T.C_Walk dx (kf q pl))
theorem walk_seq {T : Txt K mg} {H H' : Hp} {wk q : Addr} {pl : Nat} {xs : List V} (hW : WalkAt T H wk q pl) (hq : SqL K H q xs) (kp : Kp [wk] H H') : SqL K H' q xs := by
  obtain ⟨dx, ho⟩ := hW
  refine sql_kp hq kp fun u e hu z => ?_
  have z : q = wk := by simpa using z
  rw [z, ho] at e
  cases e
  rcases hu with hu | ⟨o, hu⟩ <;> cases hu
def sp_Walk_init (T : Txt K mg) : Sp := fun vs H Q _ => ∃ (p dx q : Addr), vs = [.ref p, .ref q] ∧ H p = some (.ins T.C_Walk dx []) ∧ ∀ H', WalkAt T H' p q 0 → Kp [p] H H' → Q .non H'
theorem ok_Walk___init__ (T : Txt K mg) : FnOk P w K mg base CX0 1 T.f_Walk___init__ T.d_Walk___init__ ["self", "numbers"] (sp_Walk_init T) := by
  refine T.F_Walk___init__.ok sc_Walk___init__ (fun vs H Q E h => ?_) (fun cdv A outer s H vs Q E hr h => ?_)
  · obtain ⟨p, dx, q, rfl, _⟩ := h; rfl
  · obtain ⟨p, dx, q, rfl, hp, k⟩ := h
    refine ⟨_, (pss_cons (ps_fld (pv 0) (pv 1) rfl) (pss_one (ps_fld (pv 0) pe_int rfl))), ?_⟩
    refine ⟨_, rfl, _, rfl, p, _, dx, _, rfl, hp, T.cl_Walk, T.n_Walk_numbers, (by show 0 < 1000; decide), ?_⟩
    refine ⟨_, rfl, p, _, dx, _, rfl, upd_same, T.cl_Walk, T.n_Walk_place, (by show 1 < 1000; decide), ?_⟩
    rw [upd_upd]
    exact k _ ⟨dx, upd_same⟩ Kp.upd
def sp_Walk_is_over (T : Txt K mg) : Sp := fun vs H Q _ => ∃ (wk q : Addr) (pl : Nat) (ns : List Nat), vs = [.ref wk] ∧ WalkAt T H wk q pl ∧ SqL K H q (nV ns) ∧ Q (.bl (decide (ns.length ≤ pl))) H
theorem ok_Walk_is_over (T : Txt K mg) : FnOk P w K mg base CX0 1 T.f_Walk_is_over T.d_Walk_is_over ["self"] (sp_Walk_is_over T) := by
  refine T.F_Walk_is_over.ok sc_Walk_is_over (fun vs H Q E h => ?_) (fun cdv A outer s H vs Q E hr h => ?_)
  · obtain ⟨wk, q, pl, ns, rfl, _⟩ := h; rfl
  · obtain ⟨wk, q, pl, ns, rfl, ⟨dx, ho⟩, hq, k⟩ := h
    refine ⟨_, (pss_one (ps_ret (pe_cmpR op_ge (pe_fld (pv 0) rfl) (pe_callB call_len_seq (by rfl) T.bl_len PySem.boot_len (pa_cons (pe_fld (pv 0) rfl) pa_nil)) (nomark _)))), ?_⟩
    refine ⟨_, rfl, wk, _, dx, _, _, rfl, ho, T.cl_Walk, T.n_Walk_place, kf_place _ _, _, rfl, wk, _, dx, _, _, rfl, ho, T.cl_Walk, T.n_Walk_numbers, kf_numbers _ _, q, _, rfl, .inl hq, _, _, rfl, rfl, ?_⟩
    show Q (V.bl (decide ((((nV ns).length : Nat) : Int) ≤ ((pl : Nat) : Int)))) H
    have e : decide ((((nV ns).length : Nat) : Int) ≤ ((pl : Nat) : Int)) = decide (ns.length ≤ pl) := decide_eq_decide.mpr (by rw [nV_len]; omega)
    rw [e]
    exact k
def sp_Walk_take_number (T : Txt K mg) : Sp := fun vs H Q _ => ∃ (wk q : Addr) (pl : Nat) (ns : List Nat) (x : Nat), vs = [.ref wk] ∧ WalkAt T H wk q pl ∧ SqL K H q (nV ns) ∧ ns[pl]? = some x ∧ ∀ H', WalkAt T H' wk q (pl + 1) → Kp [wk] H H' → Q (iV x) H'
theorem ok_Walk_take_number (T : Txt K mg) : FnOk P w K mg base CX0 1 T.f_Walk_take_number T.d_Walk_take_number ["self"] (sp_Walk_take_number T) := by
  refine T.F_Walk_take_number.ok sc_Walk_take_number (fun vs H Q E h => ?_) (fun cdv A outer s H vs Q E hr h => ?_)
  · obtain ⟨wk, q, pl, ns, x, rfl, _⟩ := h; rfl
  · obtain ⟨wk, q, pl, ns, x, rfl, ⟨dx, ho⟩, hq, hx, k⟩ := h
    refine ⟨_, (pss_cons (ps_set (i := 1) sc_Walk_take_number.nd rfl (Or.inl rfl) (pe_ix ix_list (pe_fld (pv 0) rfl) (pe_fld (pv 0) rfl) (fun _ _ => rfl))) (pss_cons (ps_fld (pv 0) (pe_op op_add (pe_fld (pv 0) rfl) pe_int) rfl) (pss_one (ps_ret (pv 1))))), ?_⟩
    refine ⟨_, rfl, wk, _, dx, _, _, rfl, ho, T.cl_Walk, T.n_Walk_numbers, kf_numbers _ _, _, rfl, wk, _, dx, _, _, rfl, ho, T.cl_Walk, T.n_Walk_place, kf_place _ _, q, _, _, _, rfl, rfl, hq, at_of (j := pl) rfl (by rw [nV, List.getElem?_map, hx]; rfl), ?_⟩
    refine ⟨_, rfl, wk, _, dx, _, _, rfl, ho, T.cl_Walk, T.n_Walk_place, kf_place _ _, _, _, rfl, rfl, _, rfl, wk, _, dx, _, rfl, ho, T.cl_Walk, T.n_Walk_place, (by show 2 < 1000; decide), ?_⟩
    exact ⟨_, rfl, k _ ⟨dx, upd_same⟩ Kp.upd⟩
def sp_Walk_take_row (T : Txt K mg) : Sp := fun vs H Q _ => ∃ (wk q : Addr) (pl : Nat) (ns : List Nat) (z : Nat), vs = [.ref wk] ∧ WalkAt T H wk q pl ∧ SqL K H q (nV ns) ∧ ns[pl]? = some z ∧ pl + 1 + z ≤ ns.length ∧
  ∀ (H' : Hp) (p : Addr), WalkAt T H' wk q (pl + 1 + z) → Kp [wk] H H' → H p = none → H' p = some (.lst (nV ((ns.drop (pl + 1)).take z))) → Q (.ref p) H'
theorem ok_Walk_take_row (T : Txt K mg) : FnOk P w K mg base CX0 2 T.f_Walk_take_row T.d_Walk_take_row ["self"] (sp_Walk_take_row T) := by
  refine T.F_Walk_take_row.ok sc_Walk_take_row (fun vs H Q E h => ?_) (fun cdv A outer s H vs Q E hr h => ?_)
  · obtain ⟨wk, q, pl, ns, z, rfl, _⟩ := h; rfl
  · obtain ⟨wk, q, pl, ns, z, rfl, hWk, hq, hz, hle, k⟩ := h
    refine ⟨_, (pss_cons (ps_set (i := 1) sc_Walk_take_row.nd rfl (Or.inl rfl) (pe_meth0 (pv 0) T.cl_Walk T.me_Walk_take_number (ok_Walk_take_number T) (hr.mono (by decide)) T.b_Walk_take_number .nil pass0)) (pss_cons (ps_set (i := 2) sc_Walk_take_row.nd rfl (Or.inl rfl) (pe_fld (pv 0) rfl)) (pss_cons (ps_fld (pv 0) (pe_op op_add (pv 2) (pv 1)) rfl) (pss_one (ps_ret (pe_slice sl_list (pe_fld (pv 0) rfl) (po_some (pv 2)) (po_some (pe_fld (pv 0) rfl)))))))), ?_⟩
    obtain ⟨dx0, ho0⟩ := id hWk
    refine ⟨_, rfl, wk, dx0, _, rfl, ho0, rfl, wk, q, pl, ns, z, rfl, hWk, hq, hz, fun H1 hW1 kp1 => ?_⟩
    have hq1 := walk_seq hWk hq kp1
    obtain ⟨dx, ho⟩ := id hW1
    refine ⟨_, rfl, wk, _, dx, _, _, rfl, ho, T.cl_Walk, T.n_Walk_place, kf_place _ _, ?_⟩
    refine ⟨_, rfl, _, rfl, _, _, rfl, rfl, _, rfl, wk, _, dx, _, rfl, ho, T.cl_Walk, T.n_Walk_place, (by show 2 < 1000; decide), ?_⟩
    have kp2 : Kp [wk] H1 (upd H1 wk (.ins T.C_Walk dx (kf q (pl + 1 + z)))) := Kp.upd
    have hq2 := walk_seq hW1 hq1 kp2
    have ho2 : (upd H1 wk (.ins T.C_Walk dx (kf q (pl + 1 + z)))) wk = some (.ins T.C_Walk dx (kf q (pl + 1 + z))) := upd_same
    refine ⟨_, rfl, wk, _, dx, _, _, rfl, ho2, T.cl_Walk, T.n_Walk_numbers, kf_numbers _ _, _, rfl, _, rfl, _, rfl, wk, _, dx, _, _, rfl, ho2, T.cl_Walk, T.n_Walk_place, kf_place _ _, _, rfl, q, _, rfl, hq2, fun p hp => ?_⟩
    rw [cut_nat ns (pl + 1) z (by omega) hle (by omega) (by omega)]
    have hp : (upd H1 wk (.ins T.C_Walk dx (kf q (pl + 1 + z)))) p = none := hp
    have s3 := Same.new (o := .lst (nV ((ns.drop (pl + 1)).take z))) hp
    have npw : p ≠ wk := fun e => by rw [e, upd_same] at hp; cases hp
    refine k _ p ⟨dx, s3 _ _ upd_same⟩ (fun d o e nn => s3 _ _ (kp2 _ _ (kp1 _ _ e nn) nn)) ?_ upd_same
    cases e : H p with
    | none => rfl
    | some o => rw [kp2 _ _ (kp1 _ _ e (by simpa using npw)) (by simpa using npw)] at hp; cases hp
end FB
end
section
namespace FB
open PySem PySem.Spec PyProof.Rows L2 FM
open LwBits (Item Models Want)
open LwBits (Reader)
variable {P : Program} {w : World} {K : PySem.W.Frag} {mg : Str → Option Value} {base : Heap}
def PostW (T : Txt K mg) (H : Hp) (c wk q : Addr) (F : List Addr) (pl' : Nat) (y : Coder.State × Coder.Answer) (Q : VK) : Prop :=
  ∀ (H' : Hp) (F' : List Addr) (p : Addr), CoderAt T H' c F' y.1 → WalkAt T H' wk q pl' → (∀ z ∈ F', z ∈ F ∨ H z = none) → Kp (wk :: F) H H' → (p ∈ F ∨ H p = none) → p ∉ F' → H' p = some (.lst (ansV y.2)) → (ansV y.2).length ≤ 9000 → Q (.ref p) H'
def sp_answer_one (T : Txt K mg) : Sp := fun vs H Q _ => ∃ (c wk q : Addr) (F : List Addr) (s : Coder.State) (pl pl' : Nat) (ns : List Nat) (x : Coder.Call), vs = [.ref c, .ref wk] ∧ CoderAt T H c F s ∧ WalkAt T H wk q pl ∧ SqL K H q (nV ns) ∧ wk ∉ F ∧ CallAt ns pl x pl' ∧ PostW T H c wk q F pl' (Coder.step s x) Q
theorem PostW.post {T : Txt K mg} {H H1 : Hp} {c wk q : Addr} {F : List Addr} {pl' : Nat} {y : Coder.State × Coder.Answer} {Q : VK} (k : PostW T H c wk q F pl' y Q) (nw : wk ∉ F) (hW1 : WalkAt T H1 wk q pl') (kp : Kp [wk] H H1) : Post T H1 c F y Q := by
  have back : ∀ z, H1 z = none → H z = none := fun z e => by
    obtain ⟨dx, ho⟩ := hW1
    cases q1 : H z with
    | none => rfl
    | some o =>
      by_cases zw : z = wk
      · rw [zw, ho] at e; cases e
      · rw [kp _ _ q1 (by simpa using zw)] at e; cases e
  intro H' F' p hC sub kp1 hp np hl hb
  obtain ⟨dx, ho⟩ := id hW1
  refine k H' F' p hC ⟨dx, kp1 _ _ ho nw⟩ (fun z hz => (sub z hz).imp id (back z)) (fun d o e nn => ?_) (hp.imp id (back p)) np hl hb
  have nn : d ≠ wk ∧ d ∉ F := by simpa only [List.mem_cons, not_or] using nn
  exact kp1 _ _ (kp _ _ e (by simpa using nn.1)) nn.2
theorem CoderAt.walk {T : Txt K mg} {H H1 : Hp} {c wk q : Addr} {F : List Addr} {s : Coder.State} {pl : Nat} (hC : CoderAt T H c F s) (hW : WalkAt T H wk q pl) (nw : wk ∉ F) (kp : Kp [wk] H H1) : CoderAt T H1 c F s := by
  obtain ⟨dx, ho⟩ := hW
  exact hC.kp kp (fun y hy => by simpa using fun z : y = wk => nw (z ▸ hy)) (fun y hy vs e => by
    have hy : y = wk := by simpa using hy
    rw [hy, ho] at e; cases e)
theorem ok_answer_one (T : Txt K mg) : FnOk P w K mg base CX0 9 T.f_answer_one T.d_answer_one ["coder", "walk"] (sp_answer_one T) := by
  refine T.F_answer_one.ok sc_answer_one (fun vs H Q E h => ?_) (fun cdv A outer s H vs Q E hr h => ?_)
  · obtain ⟨c, wk, q, F, s, pl, pl', ns, x, rfl, _⟩ := h; rfl
  · obtain ⟨c, wk, q, F, s, pl, pl', ns, x, rfl, hC, hW, hq, nw, hx, k⟩ := h
    refine ⟨_, (pss_cons (ps_set (i := 2) sc_answer_one.nd rfl (Or.inl rfl) (pe_meth0 (pv 1) T.cl_Walk T.me_Walk_take_number (ok_Walk_take_number T) (hr.mono (by decide)) T.b_Walk_take_number .nil pass0)) (pss_cons (ps_if (pt_cmpR op_eq (pv 2) (pe_gi rfl T.g_BEGIN) (nomark _)) (pss_cons (ps_set (i := 3) sc_answer_one.nd rfl (Or.inl rfl) (pe_meth0 (pv 1) T.cl_Walk T.me_Walk_take_number (ok_Walk_take_number T) (hr.mono (by decide)) T.b_Walk_take_number .nil pass0)) (pss_one (ps_ret (pe_meth (pv 0) T.cl_Coder T.me_Coder_begin (ok_Coder_begin T) (hr.mono (by decide)) T.b_Coder_begin .nil pass0 (pa_cons (pv 3) (pa_cons (pe_meth0 (pv 1) T.cl_Walk T.me_Walk_take_row (ok_Walk_take_row T) (hr.mono (by decide)) T.b_Walk_take_row .nil pass0) pa_nil)))))) pss_nil) (pss_cons (ps_if (pt_cmpR op_eq (pv 2) (pe_gi rfl T.g_PUT) (nomark _)) (pss_one (ps_ret (pe_meth (pv 0) T.cl_Coder T.me_Coder_put (ok_Coder_put T) (hr.mono (by decide)) T.b_Coder_put .nil pass0 (pa_cons (pe_meth0 (pv 1) T.cl_Walk T.me_Walk_take_row (ok_Walk_take_row T) (hr.mono (by decide)) T.b_Walk_take_row .nil pass0) pa_nil)))) pss_nil) (pss_cons (ps_if (pt_cmpR op_eq (pv 2) (pe_gi rfl T.g_END) (nomark _)) (pss_one (ps_ret (pe_meth0 (pv 0) T.cl_Coder T.me_Coder_end (ok_Coder_end T) (hr.mono (by decide)) T.b_Coder_end .nil pass0))) pss_nil) (pss_cons (ps_if (pt_cmpR op_eq (pv 2) (pe_gi rfl T.g_OPEN) (nomark _)) (pss_cons (ps_set (i := 3) sc_answer_one.nd rfl (Or.inl rfl) (pe_meth0 (pv 1) T.cl_Walk T.me_Walk_take_number (ok_Walk_take_number T) (hr.mono (by decide)) T.b_Walk_take_number .nil pass0)) (pss_cons (ps_set (i := 4) sc_answer_one.nd rfl (Or.inl rfl) (pe_meth0 (pv 1) T.cl_Walk T.me_Walk_take_row (ok_Walk_take_row T) (hr.mono (by decide)) T.b_Walk_take_row .nil pass0)) (pss_one (ps_ret (pe_meth (pv 0) T.cl_Coder T.me_Coder_open_row (ok_Coder_open_row T) (hr.mono (by decide)) T.b_Coder_open_row .nil pass0 (pa_cons (pv 3) (pa_cons (pv 4) (pa_cons (pe_meth0 (pv 1) T.cl_Walk T.me_Walk_take_row (ok_Walk_take_row T) (hr.mono (by decide)) T.b_Walk_take_row .nil pass0) pa_nil)))))))) pss_nil) (pss_cons (ps_if (pt_cmpR op_eq (pv 2) (pe_gi rfl T.g_GET) (nomark _)) (pss_one (ps_ret (pe_meth (pv 0) T.cl_Coder T.me_Coder_get (ok_Coder_get T) (hr.mono (by decide)) T.b_Coder_get .nil pass0 (pa_cons (pe_meth0 (pv 1) T.cl_Walk T.me_Walk_take_row (ok_Walk_take_row T) (hr.mono (by decide)) T.b_Walk_take_row .nil pass0) pa_nil)))) pss_nil) (pss_cons (ps_if (pt_cmpR op_eq (pv 2) (pe_gi rfl T.g_DONE) (nomark _)) (pss_one (ps_ret (pe_meth0 (pv 0) T.cl_Coder T.me_Coder_done (ok_Coder_done T) (hr.mono (by decide)) T.b_Coder_done .nil pass0))) pss_nil) (pss_cons (ps_if (pt_cmpR op_eq (pv 2) (pe_gi rfl T.g_MODEL) (nomark _)) (pss_one (ps_ret (pe_meth (pv 0) T.cl_Coder T.me_Coder_model (ok_Coder_model T) (hr.mono (by decide)) T.b_Coder_model .nil pass0 (pa_cons (pe_meth0 (pv 1) T.cl_Walk T.me_Walk_take_number (ok_Walk_take_number T) (hr.mono (by decide)) T.b_Walk_take_number .nil pass0) pa_nil)))) pss_nil) (pss_one ps_never))))))))), ?_⟩
    obtain ⟨dw, how⟩ := id hW
    have go : ∀ n0 : Nat, ns[pl]? = some n0 → ∃ a, ns[pl]? = some a ∧ a = n0 := fun n0 h => ⟨n0, h, rfl⟩
    cases x with
    | begin_ n l =>
      obtain ⟨h0, h1, z, hz, hle, rfl, rfl⟩ := hx
      refine ⟨_, rfl, wk, dw, _, rfl, how, rfl, wk, q, pl, ns, 0, rfl, hW, hq, h0, fun H1 hW1 kp1 => ?_⟩
      refine ⟨_, rfl, rfl, _, rfl, iteI (fun _ => ?_) (fun h => absurd rfl h)⟩
      have hq1 := walk_seq hW hq kp1
      obtain ⟨dw1, how1⟩ := id hW1
      refine ⟨_, rfl, wk, dw1, _, rfl, how1, rfl, wk, q, pl + 1, ns, n, rfl, hW1, hq1, h1, fun H2 hW2 kp2 => ?_⟩
      have hq2 := walk_seq hW1 hq1 kp2
      have hC2 := (hC.walk hW nw kp1).walk hW1 nw kp2
      obtain ⟨hcF, dc, wv, rv, hob⟩ := hC2.ob
      obtain ⟨dw2, how2⟩ := id hW2
      refine ⟨_, rfl, c, dc, _, rfl, hob, rfl, _, rfl, _, rfl, wk, dw2, _, rfl, how2, rfl, wk, q, pl + 2, ns, z, rfl, hW2, hq2, hz, hle, fun H3 p hW3 kp3 hp hp3 => ?_⟩
      exact ⟨c, F, s, n, p, _, rfl, hC2.walk hW2 nw kp3, SqL.of hp3, k.post nw hW3 ((kp1.trans kp2).trans kp3)⟩
    | put l =>
      obtain ⟨h0, ⟨z, hz, hle, rfl, rfl⟩, hll⟩ := hx
      refine ⟨_, rfl, wk, dw, _, rfl, how, rfl, wk, q, pl, ns, 1, rfl, hW, hq, h0, fun H1 hW1 kp1 => ?_⟩
      refine ⟨_, rfl, rfl, _, rfl, iteI (fun h => absurd h (by decide)) (fun _ => ?_)⟩
      refine ⟨_, rfl, rfl, _, rfl, iteI (fun _ => ?_) (fun h => absurd rfl h)⟩
      have hq1 := walk_seq hW hq kp1
      have hC1 := hC.walk hW nw kp1
      obtain ⟨hcF, dc, wv, rv, hob⟩ := hC1.ob
      obtain ⟨dw1, how1⟩ := id hW1
      refine ⟨_, rfl, c, dc, _, rfl, hob, rfl, _, rfl, wk, dw1, _, rfl, how1, rfl, wk, q, pl + 1, ns, z, rfl, hW1, hq1, hz, hle, fun H3 p hW3 kp3 hp hp3 => ?_⟩
      exact ⟨c, F, s, p, _, rfl, hC1.walk hW1 nw kp3, SqL.of hp3, hll, k.post nw hW3 (kp1.trans kp3)⟩
    | end_ =>
      obtain ⟨h0, rfl⟩ := hx
      refine ⟨_, rfl, wk, dw, _, rfl, how, rfl, wk, q, pl, ns, 2, rfl, hW, hq, h0, fun H1 hW1 kp1 => ?_⟩
      refine ⟨_, rfl, rfl, _, rfl, iteI (fun h => absurd h (by decide)) (fun _ => ?_)⟩
      refine ⟨_, rfl, rfl, _, rfl, iteI (fun h => absurd h (by decide)) (fun _ => ?_)⟩
      refine ⟨_, rfl, rfl, _, rfl, iteI (fun _ => ?_) (fun h => absurd rfl h)⟩
      have hC1 := hC.walk hW nw kp1
      obtain ⟨hcF, dc, wv, rv, hob⟩ := hC1.ob
      exact ⟨_, rfl, c, dc, _, rfl, hob, rfl, c, F, s, rfl, hC1, k.post nw hW1 kp1⟩
    | open_ n l b =>
      obtain ⟨h0, h1, m, os, ⟨z, hz, hle, rfl, rfl⟩, ⟨z2, hz2, hle2, rfl, rfl⟩, rfl, hby, hol⟩ := hx
      refine ⟨_, rfl, wk, dw, _, rfl, how, rfl, wk, q, pl, ns, 3, rfl, hW, hq, h0, fun H1 hW1 kp1 => ?_⟩
      refine ⟨_, rfl, rfl, _, rfl, iteI (fun h => absurd h (by decide)) (fun _ => ?_)⟩
      refine ⟨_, rfl, rfl, _, rfl, iteI (fun h => absurd h (by decide)) (fun _ => ?_)⟩
      refine ⟨_, rfl, rfl, _, rfl, iteI (fun h => absurd h (by decide)) (fun _ => ?_)⟩
      refine ⟨_, rfl, rfl, _, rfl, iteI (fun _ => ?_) (fun h => absurd rfl h)⟩
      have hq1 := walk_seq hW hq kp1
      obtain ⟨dw1, how1⟩ := id hW1
      refine ⟨_, rfl, wk, dw1, _, rfl, how1, rfl, wk, q, pl + 1, ns, n, rfl, hW1, hq1, h1, fun H2 hW2 kp2 => ?_⟩
      have hq2 := walk_seq hW1 hq1 kp2
      obtain ⟨dw2, how2⟩ := id hW2
      have hC2 := (hC.walk hW nw kp1).walk hW1 nw kp2
      refine ⟨_, rfl, wk, dw2, _, rfl, how2, rfl, wk, q, pl + 2, ns, z, rfl, hW2, hq2, hz, hle, fun H3 p hW3 kp3 hp hp3 => ?_⟩
      have hq3 := walk_seq hW2 hq2 kp3
      have hC3 := hC2.walk hW2 nw kp3
      obtain ⟨hcF, dc, wv, rv, hob⟩ := hC3.ob
      obtain ⟨dw3, how3⟩ := id hW3
      have npw : p ≠ wk := fun e => by rw [e, how2] at hp; cases hp
      have npc : p ≠ c := ne_of hp3 hob (by intro z; cases z)
      refine ⟨_, rfl, c, dc, _, rfl, hob, rfl, _, rfl, _, rfl, _, rfl, wk, dw3, _, rfl, how3, rfl, wk, q, pl + 2 + 1 + z, ns, z2, rfl, hW3, hq3, hz2, hle2, fun H4 p4 hW4 kp4 hp4 hp44 => ?_⟩
      have hC4 := hC3.walk hW3 nw kp4
      obtain ⟨_, dc4, wv4, rv4, hob4⟩ := hC4.ob
      have npc4 : p4 ≠ c := ne_of hp44 hob4 (by intro z; cases z)
      exact ⟨c, F, s, n, p, _, p4, _, rfl, hC4, SqL.of (kp4 _ _ hp3 (by simpa using npw)), SqL.of hp44, npc, npc4, hby, hol, k.post nw hW4 (((kp1.trans kp2).trans kp3).trans kp4)⟩
    | get l =>
      obtain ⟨h0, ⟨z, hz, hle, rfl, rfl⟩, hll⟩ := hx
      refine ⟨_, rfl, wk, dw, _, rfl, how, rfl, wk, q, pl, ns, 4, rfl, hW, hq, h0, fun H1 hW1 kp1 => ?_⟩
      refine ⟨_, rfl, rfl, _, rfl, iteI (fun h => absurd h (by decide)) (fun _ => ?_)⟩
      refine ⟨_, rfl, rfl, _, rfl, iteI (fun h => absurd h (by decide)) (fun _ => ?_)⟩
      refine ⟨_, rfl, rfl, _, rfl, iteI (fun h => absurd h (by decide)) (fun _ => ?_)⟩
      refine ⟨_, rfl, rfl, _, rfl, iteI (fun h => absurd h (by decide)) (fun _ => ?_)⟩
      refine ⟨_, rfl, rfl, _, rfl, iteI (fun _ => ?_) (fun h => absurd rfl h)⟩
      have hq1 := walk_seq hW hq kp1
      have hC1 := hC.walk hW nw kp1
      obtain ⟨hcF, dc, wv, rv, hob⟩ := hC1.ob
      obtain ⟨dw1, how1⟩ := id hW1
      refine ⟨_, rfl, c, dc, _, rfl, hob, rfl, _, rfl, wk, dw1, _, rfl, how1, rfl, wk, q, pl + 1, ns, z, rfl, hW1, hq1, hz, hle, fun H3 p hW3 kp3 hp hp3 => ?_⟩
      exact ⟨c, F, s, p, _, rfl, hC1.walk hW1 nw kp3, SqL.of hp3, hll, k.post nw hW3 (kp1.trans kp3)⟩
    | done =>
      obtain ⟨h0, rfl⟩ := hx
      refine ⟨_, rfl, wk, dw, _, rfl, how, rfl, wk, q, pl, ns, 5, rfl, hW, hq, h0, fun H1 hW1 kp1 => ?_⟩
      refine ⟨_, rfl, rfl, _, rfl, iteI (fun h => absurd h (by decide)) (fun _ => ?_)⟩
      refine ⟨_, rfl, rfl, _, rfl, iteI (fun h => absurd h (by decide)) (fun _ => ?_)⟩
      refine ⟨_, rfl, rfl, _, rfl, iteI (fun h => absurd h (by decide)) (fun _ => ?_)⟩
      refine ⟨_, rfl, rfl, _, rfl, iteI (fun h => absurd h (by decide)) (fun _ => ?_)⟩
      refine ⟨_, rfl, rfl, _, rfl, iteI (fun h => absurd h (by decide)) (fun _ => ?_)⟩
      refine ⟨_, rfl, rfl, _, rfl, iteI (fun _ => ?_) (fun h => absurd rfl h)⟩
      have hC1 := hC.walk hW nw kp1
      obtain ⟨hcF, dc, wv, rv, hob⟩ := hC1.ob
      exact ⟨_, rfl, c, dc, _, rfl, hob, rfl, c, F, s, rfl, hC1, k.post nw hW1 kp1⟩
    | model i =>
      obtain ⟨h0, h1, rfl⟩ := hx
      refine ⟨_, rfl, wk, dw, _, rfl, how, rfl, wk, q, pl, ns, 6, rfl, hW, hq, h0, fun H1 hW1 kp1 => ?_⟩
      refine ⟨_, rfl, rfl, _, rfl, iteI (fun h => absurd h (by decide)) (fun _ => ?_)⟩
      refine ⟨_, rfl, rfl, _, rfl, iteI (fun h => absurd h (by decide)) (fun _ => ?_)⟩
      refine ⟨_, rfl, rfl, _, rfl, iteI (fun h => absurd h (by decide)) (fun _ => ?_)⟩
      refine ⟨_, rfl, rfl, _, rfl, iteI (fun h => absurd h (by decide)) (fun _ => ?_)⟩
      refine ⟨_, rfl, rfl, _, rfl, iteI (fun h => absurd h (by decide)) (fun _ => ?_)⟩
      refine ⟨_, rfl, rfl, _, rfl, iteI (fun h => absurd h (by decide)) (fun _ => ?_)⟩
      refine ⟨_, rfl, rfl, _, rfl, iteI (fun _ => ?_) (fun h => absurd rfl h)⟩
      have hq1 := walk_seq hW hq kp1
      have hC1 := hC.walk hW nw kp1
      obtain ⟨hcF, dc, wv, rv, hob⟩ := hC1.ob
      obtain ⟨dw1, how1⟩ := id hW1
      refine ⟨_, rfl, c, dc, _, rfl, hob, rfl, _, rfl, wk, dw1, _, rfl, how1, rfl, wk, q, pl + 1, ns, i, rfl, hW1, hq1, h1, fun H2 hW2 kp2 => ?_⟩
      exact ⟨c, F, s, i, rfl, hC1.walk hW1 nw kp2, k.post nw hW2 (kp1.trans kp2)⟩
theorem step_ans (s : Coder.State) {c : List (List Int)} {x : Coder.Call} (h : CoderNeutral.callOf c = some x) : CoderNeutral.step s c = ((Coder.step s x).1, ansI (Coder.step s x).2) := by
  unfold CoderNeutral.step
  rw [h]
  rfl
theorem calls_cons {f : Nat} {ns : List Nat} {pl : Nat} {cs : List (List (List Int))} (hlt : pl < ns.length) (h : PyFlat.calls PyWrlnte.shape f (intL (ns.drop pl)) = some cs) : ∃ g c t cs', f = g + 1 ∧ cs = c :: cs' ∧ PyFlat.call PyWrlnte.shape (intL (ns.drop pl)) = some (c, t) ∧ PyFlat.calls PyWrlnte.shape g t = some cs' := by
  rw [List.drop_eq_getElem_cons hlt] at h ⊢
  cases f with
  | zero => cases h
  | succ g =>
    have h : (match PyFlat.call PyWrlnte.shape (intL (ns[pl] :: ns.drop (pl + 1))) with
      | none => none
      | some (c, t) => match PyFlat.calls PyWrlnte.shape g t with
        | none => none
        | some cs => some (c :: cs)) = some cs := h
    cases e : PyFlat.call PyWrlnte.shape (intL (ns[pl] :: ns.drop (pl + 1))) with
    | none => rw [e] at h; cases h
    | some y =>
      obtain ⟨c, t⟩ := y
      rw [e] at h
      dsimp only at h
      cases e2 : PyFlat.calls PyWrlnte.shape g t with
      | none => rw [e2] at h; cases h
      | some cs' =>
        rw [e2] at h
        cases h
        exact ⟨g, c, t, cs', rfl, rfl, rfl, e2⟩
def sp_answers : Sp := fun vs H Q _ => ∃ (q : Addr) (ns : List Nat), vs = [.ref q] ∧ SqL K H q (nV ns) ∧ PyWrlnte.answers_asked (intL ns) = true ∧ ∀ (H' : Hp) (p : Addr), H' p = some (.lst ((PyWrlnte.answers (intL ns)).map V.int)) → Q (.ref p) H'
theorem ok_answers (T : Txt K mg) : FnOk P w K mg base CX0 10 T.f_answers T.d_answers ["calls"] (sp_answers (K := K)) := by
  refine T.F_answers.ok sc_answers (fun vs H Q E h => ?_) (fun cdv A outer s H vs Q E hr h => ?_)
  · obtain ⟨q, ns, rfl, _⟩ := h; rfl
  · obtain ⟨q, ns, rfl, hq, hask, k⟩ := h
    refine ⟨_, (pss_cons (ps_set (i := 1) sc_answers.nd rfl (Or.inl rfl) (pe_make0 T.mk_Coder (ok_Coder___init__ T) (hr.mono (by decide)) rfl T.mc_Coder T.b_Coder___init__ .nil pass0)) (pss_cons (ps_set (i := 2) sc_answers.nd rfl (Or.inl rfl) (pe_make T.mk_Walk (ok_Walk___init__ T) (hr.mono (by decide)) rfl T.mc_Walk T.b_Walk___init__ .nil pass0 (pa_cons (pv 0) pa_nil))) (pss_cons (ps_set (i := 3) sc_answers.nd rfl (Or.inl rfl) (pe_lst pa_nil)) (pss_cons (ps_while PassesOwn.never (pt_not (pt_val (pe_meth0 (pv 2) T.cl_Walk T.me_Walk_is_over (ok_Walk_is_over T) (hr.mono (by decide)) T.b_Walk_is_over .nil pass0))) (pss_cons (ps_set (i := 4) sc_answers.nd rfl (Or.inl rfl) (pe_call (ok_answer_one T) (hr.mono (by decide)) rfl T.m_answer_one T.F_answer_one.kp T.b_answer_one .nil pass0 (pa_cons (pv 1) (pa_cons (pv 2) pa_nil)))) (pss_cons (ps_expr (pe_bm PySem.F.plainAttrs_list PySem.F.slot_list_append PySem.F.type_list_append mt_append (pv 3) (pa_cons (pe_callB call_len_seq (by rfl) T.bl_len PySem.boot_len (pa_cons (pv 4) pa_nil)) pa_nil))) (pss_one (ps_expr (pe_bm PySem.F.plainAttrs_list PySem.F.slot_list_extend PySem.F.type_list_extend mt_extend (pv 3) (pa_cons (pv 4) pa_nil))))))) (pss_one (ps_ret (pv 3))))))), ?_⟩
    -- what is asked
    obtain ⟨cs0, hcs0, h400, hall⟩ : ∃ cs, PyFlat.calls PyWrlnte.shape (intL ns).length (intL ns) = some cs ∧ cs.length ≤ 400 ∧ ∀ c ∈ cs, CoderNeutral.asked1 c = true := by
      unfold PyWrlnte.answers_asked PyWrlnte.calls at hask
      cases e : PyFlat.calls PyWrlnte.shape (intL ns).length (intL ns) with
      | none => rw [e] at hask; cases hask
      | some cs =>
        rw [e] at hask
        have ew : cs.map PyWrlnte.whole = cs := by
          conv => rhs; rw [← List.map_id cs]
          exact List.map_congr_left fun c _ => whole_id c
        dsimp only at hask
        rw [ew, Bool.and_eq_true] at hask
        obtain ⟨h1, h2⟩ := hask
        unfold CoderNeutral.asked at h2
        rw [Bool.and_eq_true, List.all_eq_true] at h2
        exact ⟨cs, rfl, of_decide_eq_true h1, h2.2⟩
    have hans : PyWrlnte.answers (intL ns) = PyFlat.told (PyFlat.played CoderNeutral.step Coder.State.idle cs0) := by
      unfold PyWrlnte.answers PyWrlnte.calls
      rw [hcs0]
      have ew : cs0.map PyWrlnte.whole = cs0 := by
        conv => rhs; rw [← List.map_id cs0]
        exact List.map_congr_left fun c _ => whole_id c
      dsimp only
      rw [ew]
      rfl
    rw [hans] at k
    -- coder = Coder(); walk = Walk(calls); answered = []
    intro c dc hc hdc hne
    refine ⟨c, dc, rfl, upd_same, fun H1 hC1 kp1 => ⟨rfl, ?_⟩⟩
    have s1 : Same H H1 := Same.made hc hdc fun b o e nn => kp1 b o e (by simpa using nn)
    refine ⟨_, rfl, fun wk dw hw hdw hne2 => ⟨wk, dw, q, rfl, upd_same, fun H2 hW2 kp2 => ⟨rfl, ?_⟩⟩⟩
    have s2 : Same H1 H2 := Same.made hw hdw fun b o e nn => kp2 b o e (by simpa using nn)
    have hC2 := hC1.same s2
    refine ⟨Nat.zero_le _, fun D hD => ?_⟩
    have s3 := Same.new (o := .lst []) hD
    have nwk : wk ∉ [c] := fun z => by
      have z : wk = c := by simpa using z
      obtain ⟨_, d, _, _, e⟩ := hC1.ob
      rw [z, e] at hw; cases hw
    have nDF : D ∉ [c] := fun z => (hC2.tr D z).1 hD
    have nDw : D ≠ wk := fun z => by
      obtain ⟨d, e⟩ := hW2
      rw [z, e] at hD; cases hD
    have hW3 : WalkAt T (upd H2 D (.lst [])) wk q 0 := by
      obtain ⟨d, e⟩ := hW2
      exact ⟨d, s3 _ _ e⟩
    have hcn : H c = none := hc
    have hwn : H wk = none := s1.free hw
    have hDn : H D = none := (s1.trans s2).free hD
    have hcs00 : PyFlat.calls PyWrlnte.shape (intL ns).length (intL (ns.drop 0)) = some cs0 := hcs0
    refine while_by (fun σ H' => ∃ (pl f : Nat) (cs : List (List (List Int))) (st : Coder.State) (F : List Addr) (dn : List Int) (v4 : Option V), σ = [some (.ref q), some (.ref c), some (.ref wk), some (.ref D), v4] ∧
        PyFlat.calls PyWrlnte.shape f (intL (ns.drop pl)) = some cs ∧ (∀ c ∈ cs, CoderNeutral.asked1 c = true) ∧ CoderAt T H' c F st ∧ WalkAt T H' wk q pl ∧ wk ∉ F ∧ D ∉ F ∧ (∀ z ∈ F, H z = none) ∧ Same H H' ∧ H' D = some (.lst (dn.map V.int)) ∧
        dn ++ PyFlat.told (PyFlat.played CoderNeutral.step st cs) = PyFlat.told (PyFlat.played CoderNeutral.step Coder.State.idle cs0) ∧ dn.length + cs.length * 9001 ≤ 400 * 9001)
      (fun σ H' => match σ with | [_, _, some (.ref wk), _, _] => (match H' wk with | some (.ins _ _ [_, (_, .int pl)]) => ns.length - pl.toNat | _ => 0) | _ => 0)
      ⟨0, (intL ns).length, cs0, .idle, [c], [], none, rfl, hcs00, hall, hC2.same s3, hW3, nwk, nDF, (fun z hz => by
        have hz : z = c := by simpa using hz
        rw [hz]; exact hcn), (s1.trans s2).trans s3, upd_same, rfl, by simp; omega⟩ ?_ ?_
    · rintro σ H4 ⟨pl, f, cs, st, F, dn, v4, rfl, hcs, hask4, hC4, hW4, nw4, nD4, hF4, s4, hD4, heq, hlen⟩
      obtain ⟨dw4, how4⟩ := id hW4
      refine ⟨_, rfl, wk, dw4, _, rfl, how4, rfl, wk, q, pl, ns, rfl, hW4, s4.seq hq, _, rfl, iteNB (fun hov => ?_) (fun hov => ?_)⟩
      rotate_left
      · have hov := of_decide_eq_true hov
        refine ⟨_, rfl, k H4 D ?_⟩
        have ecs : cs = [] := by
          rw [List.drop_eq_nil_of_le hov] at hcs
          cases f <;> (cases hcs; rfl)
        rw [ecs] at heq
        have heq : dn ++ [] = PyFlat.told (PyFlat.played CoderNeutral.step Coder.State.idle cs0) := heq
        rw [List.append_nil] at heq
        rw [← heq]
        exact hD4
      · have hov := of_decide_eq_false hov
        obtain ⟨g, cc, t, cs', rfl, rfl, hcall, hrest⟩ := calls_cons (by omega) hcs
        obtain ⟨x, pl', hof, hat, rfl, hlt, hpl⟩ := call_at hcall (hask4 cc (by simp))
        refine ⟨_, rfl, _, rfl, c, wk, q, F, st, pl, pl', ns, x, rfl, hC4, hW4, s4.seq hq, nw4, hat, fun H5 F5 p hC5 hW5 sub5 kp5 hp5 np5 hl5 hb5 => ?_⟩
        have nDp : D ≠ p := fun z => by
          rcases hp5 with q1 | q1
          · exact nD4 (z ▸ q1)
          · rw [← z, hD4] at q1; cases q1
        have nDm : D ∉ wk :: F := fun z => by
          rcases List.mem_cons.mp z with z | z
          · exact nDw z
          · exact nD4 z
        have hD5 := kp5 _ _ hD4 nDm
        have ean : (ansV (Coder.step st x).2) = (ansI (Coder.step st x).2).map V.int := rfl
        have hll : dn.length + (cs'.length + 1) * 9001 ≤ 400 * 9001 := hlen
        have hbl : (ansI (Coder.step st x).2).length ≤ 9000 := by rw [ean, List.length_map] at hb5; exact hb5
        refine ⟨_, rfl, .inl ⟨rfl, _, SqL.of hD5⟩, _, rfl, p, _, rfl, .inl (SqL.of hl5), D, _, _, rfl, rfl, hD5, ?_, ?_⟩
        · rw [List.length_map]
          exact Nat.lt_of_lt_of_le (show _ < 400 * 9001 by omega) (by decide)
        have e6 : (upd H5 D (.lst (dn.map V.int ++ [V.int (((ansV (Coder.step st x).2).length : Nat) : Int)]))) D = some (.lst (dn.map V.int ++ [V.int (((ansV (Coder.step st x).2).length : Nat) : Int)])) := upd_same
        have hl6 : (upd H5 D (.lst (dn.map V.int ++ [V.int (((ansV (Coder.step st x).2).length : Nat) : Int)]))) p = some (.lst (ansV (Coder.step st x).2)) := by rw [upd_ne (Ne.symm nDp)]; exact hl5
        refine ⟨_, rfl, .inl ⟨rfl, _, SqL.of e6⟩, _, rfl, D, p, _, _, rfl, rfl, e6, hl6, ?_, ?_⟩
        · rw [List.length_append, List.length_map, List.length_singleton, ean, List.length_map]
          exact Nat.le_trans (show _ ≤ 400 * 9001 by omega) (by decide)
        rw [upd_upd]
        have nDF5 : D ∉ F5 := fun z => by
          rcases sub5 D z with q1 | q1
          · exact nD4 q1
          · rw [hD4] at q1; cases q1
        have nwF5 : wk ∉ F5 := fun z => by
          rcases sub5 wk z with q1 | q1
          · exact nw4 q1
          · rw [how4] at q1; cases q1
        have hF5 : ∀ z ∈ F5, H z = none := fun z hz => by
          rcases sub5 z hz with q1 | q1
          · exact hF4 z q1
          · exact s4.free q1
        have s5 : Same H H5 := fun d o e => kp5 _ _ (s4 _ _ e) fun z => by
          rcases List.mem_cons.mp z with z | z
          · rw [z, hwn] at e; cases e
          · rw [hF4 d z] at e; cases e
        have kpD : Kp [D] H5 (upd H5 D (.lst (dn.map V.int ++ [V.int (((ansV (Coder.step st x).2).length : Nat) : Int)] ++ ansV (Coder.step st x).2))) := Kp.upd
        obtain ⟨dw5, how5⟩ := id hW5
        have how6 := kpD _ _ how5 (by simpa using Ne.symm nDw)
        refine ⟨⟨pl', g, cs', (Coder.step st x).1, F5, dn ++ ((ansI (Coder.step st x).2).length : Int) :: ansI (Coder.step st x).2, _, rfl, hrest, fun c' hc' => hask4 c' (List.mem_cons_of_mem _ hc'), hC5.kp kpD (fun y hy => by simpa using fun z : y = D => nDF5 (z ▸ hy)) (fun y hy vs e => by
          have hy : y = D := by simpa using hy
          rw [hy, hD5] at e; cases e), ⟨dw5, how6⟩, nwF5, nDF5, hF5, fun d o e => kpD _ _ (s5 _ _ e) (by simpa using ne_of_none e hDn), ?_, ?_, ?_⟩, ?_⟩
        · rw [upd_same, ean, List.length_map, List.map_append, List.map_cons, List.append_assoc]
          rfl
        · have e7 : PyFlat.told (PyFlat.played CoderNeutral.step st (cc :: cs')) = (((ansI (Coder.step st x).2).length : Int) :: ansI (Coder.step st x).2) ++ PyFlat.told (PyFlat.played CoderNeutral.step (Coder.step st x).1 cs') := by
            show PyFlat.told ((CoderNeutral.step st cc).2 :: PyFlat.played CoderNeutral.step (CoderNeutral.step st cc).1 cs') = _
            rw [step_ans st hof]
            unfold PyFlat.told
            rw [List.flatMap_cons]
          rw [e7] at heq
          rw [← heq, List.append_assoc]
        · rw [List.length_append, List.length_cons]
          omega
        · show (match (upd H5 D _) wk with | some (.ins _ _ [_, (_, .int pl)]) => ns.length - pl.toNat | _ => 0) < (match H4 wk with | some (.ins _ _ [_, (_, .int pl)]) => ns.length - pl.toNat | _ => 0)
          rw [how6, how4]
          show ns.length - ((pl' : Nat) : Int).toNat < ns.length - ((pl : Nat) : Int).toNat
          rw [Int.toNat_natCast, Int.toNat_natCast]
          omega
    · rintro σ H4 Q1 Q2 h
      intro hh
      obtain ⟨v, e, a, dx, fs, e1, e2, e3, a1, a2, a3, a4, a5, a6, a7, b, e8, q1⟩ := hh
      exact ⟨v, e, a, dx, fs, e1, e2, e3, a1, a2, a3, a4, a5, a6, a7, b, e8, h _ _ q1⟩
end FB
end
namespace FB
open PySem PySem.Spec PyProof.Rows L2
theorem own_cls {K : PySem.W.Frag} {mg : Str → Option Value} {x : Str} {C : Addr} {bm0 : List Value} {nid : String} (b : mg x = some (.ref C)) (q : PySem.W.excIn K C bm0 nid = true) (h : Heap) (X : K.In h) : OwnCls x C bm0 nid mg h := by
  refine ⟨b, ?_⟩
  unfold PySem.W.excIn at q
  split at q
  next dd cd sl lk =>
    split at q
    next C2 bm k0 k1 k2 k3 n k5 e1 e2 =>
      rw [Bool.and_eq_true, Bool.and_eq_true, Bool.and_eq_true, Bool.and_eq_true, Bool.and_eq_true, beq_iff_eq, beq_iff_eq, beq_iff_eq, Bool.not_eq_true'] at q
      obtain ⟨⟨⟨⟨⟨g1, g2⟩, g3⟩, g4⟩, g5⟩, g6⟩ := q
      subst g1 g2
      obtain ⟨nm, bs, mro, ns, qn, hd, sn, sub, ab, col, del⟩ := cd
      have g3 : del = false := g3
      have e1 : mro = Value.ref C2 :: bm := e1
      subst g3 e1
      obtain ⟨sl0⟩ := sl
      have e2 : sl0 = _ := e2
      subst e2
      exact ⟨bm, ns, nm, qn, bs, hd, sn, sub, ab, col, dd, k0, k1, k2, k3, k5, _, X _ _ lk, .of_isNs (PySem.W.isNs_of_in X g5), PySem.W.nsMap_none_of_in X g5 g6, PySem.W.tail_of_in X g4⟩
    next => cases q
  next => cases q
theorem ints_back {l : List Int} (h : ∀ x ∈ l, 0 ≤ x) : FM.intL (l.map Int.toNat) = l ∧ nV (l.map Int.toNat) = l.map V.int := by
  have e : FM.intL (l.map Int.toNat) = l := by
    rw [FM.intL, List.map_map]
    conv => rhs; rw [← List.map_id l]
    exact List.map_congr_left fun x hx => Int.toNat_of_nonneg (h x hx)
  refine ⟨e, ?_⟩
  rw [nV, List.map_map]
  exact List.map_congr_left fun x hx => congrArg V.int (Int.toNat_of_nonneg (h x hx))
theorem inInt_nn {x hi : Int} (h : PySem.W.Codec.inInt 0 hi x = true) : 0 ≤ x := (PySem.W.Codec.inInt_iff.mp h).1
theorem all_mk {P : Program} {w : World} {K : PySem.W.Frag} {h : Heap} {mg : Str → Option Value} {fa : Addr} {C248 : Addr} {C277 : Addr} {C301 : Addr} {C300 : Addr} {C267 : Addr} {C201 : Addr} {C216 : Addr} {C293 : Addr} {f320 : Addr} {od320 an320 : Option Addr} {sl320 : Array (Option Value)} {oc320 kV320 dc320 pm320 cd320 ct320 : Value} {f329 : Addr} {od329 an329 : Option Addr} {sl329 : Array (Option Value)} {oc329 kV329 dc329 pm329 cd329 ct329 : Value} {f338 : Addr} {od338 an338 : Option Addr} {sl338 : Array (Option Value)} {oc338 kV338 dc338 pm338 cd338 ct338 : Value} {f317 : Addr} {od317 an317 : Option Addr} {sl317 : Array (Option Value)} {oc317 kV317 dc317 pm317 cd317 ct317 : Value} {f319 : Addr} {od319 an319 : Option Addr} {sl319 : Array (Option Value)} {oc319 kV319 dc319 pm319 cd319 ct319 : Value} {f321 : Addr} {od321 an321 : Option Addr} {sl321 : Array (Option Value)} {oc321 kV321 dc321 pm321 cd321 ct321 : Value} {f311 : Addr} {od311 an311 : Option Addr} {sl311 : Array (Option Value)} {oc311 kV311 dc311 pm311 cd311 ct311 : Value} {f318 : Addr} {od318 an318 : Option Addr} {sl318 : Array (Option Value)} {oc318 kV318 dc318 pm318 cd318 ct318 : Value} {f308 : Addr} {od308 an308 : Option Addr} {sl308 : Array (Option Value)} {oc308 kV308 dc308 pm308 cd308 ct308 : Value} {f249 : Addr} {od249 an249 : Option Addr} {sl249 : Array (Option Value)} {oc249 kV249 dc249 pm249 cd249 ct249 : Value} {f254 : Addr} {od254 an254 : Option Addr} {sl254 : Array (Option Value)} {oc254 kV254 dc254 pm254 cd254 ct254 : Value} {f256 : Addr} {od256 an256 : Option Addr} {sl256 : Array (Option Value)} {oc256 kV256 dc256 pm256 cd256 ct256 : Value} {f251 : Addr} {od251 an251 : Option Addr} {sl251 : Array (Option Value)} {oc251 kV251 dc251 pm251 cd251 ct251 : Value} {f252 : Addr} {od252 an252 : Option Addr} {sl252 : Array (Option Value)} {oc252 kV252 dc252 pm252 cd252 ct252 : Value} {f326 : Addr} {od326 an326 : Option Addr} {sl326 : Array (Option Value)} {oc326 kV326 dc326 pm326 cd326 ct326 : Value} {f327 : Addr} {od327 an327 : Option Addr} {sl327 : Array (Option Value)} {oc327 kV327 dc327 pm327 cd327 ct327 : Value} {f328 : Addr} {od328 an328 : Option Addr} {sl328 : Array (Option Value)} {oc328 kV328 dc328 pm328 cd328 ct328 : Value} {f312 : Addr} {od312 an312 : Option Addr} {sl312 : Array (Option Value)} {oc312 kV312 dc312 pm312 cd312 ct312 : Value} {f336 : Addr} {od336 an336 : Option Addr} {sl336 : Array (Option Value)} {oc336 kV336 dc336 pm336 cd336 ct336 : Value} {f316 : Addr} {od316 an316 : Option Addr} {sl316 : Array (Option Value)} {oc316 kV316 dc316 pm316 cd316 ct316 : Value} {f333 : Addr} {od333 an333 : Option Addr} {sl333 : Array (Option Value)} {oc333 kV333 dc333 pm333 cd333 ct333 : Value} {f324 : Addr} {od324 an324 : Option Addr} {sl324 : Array (Option Value)} {oc324 kV324 dc324 pm324 cd324 ct324 : Value} {f315 : Addr} {od315 an315 : Option Addr} {sl315 : Array (Option Value)} {oc315 kV315 dc315 pm315 cd315 ct315 : Value} {f330 : Addr} {od330 an330 : Option Addr} {sl330 : Array (Option Value)} {oc330 kV330 dc330 pm330 cd330 ct330 : Value} {f335 : Addr} {od335 an335 : Option Addr} {sl335 : Array (Option Value)} {oc335 kV335 dc335 pm335 cd335 ct335 : Value} {f339 : Addr} {od339 an339 : Option Addr} {sl339 : Array (Option Value)} {oc339 kV339 dc339 pm339 cd339 ct339 : Value} {f314 : Addr} {od314 an314 : Option Addr} {sl314 : Array (Option Value)} {oc314 kV314 dc314 pm314 cd314 ct314 : Value} {f278 : Addr} {od278 an278 : Option Addr} {sl278 : Array (Option Value)} {oc278 kV278 dc278 pm278 cd278 ct278 : Value} {f283 : Addr} {od283 an283 : Option Addr} {sl283 : Array (Option Value)} {oc283 kV283 dc283 pm283 cd283 ct283 : Value} {f280 : Addr} {od280 an280 : Option Addr} {sl280 : Array (Option Value)} {oc280 kV280 dc280 pm280 cd280 ct280 : Value} {f279 : Addr} {od279 an279 : Option Addr} {sl279 : Array (Option Value)} {oc279 kV279 dc279 pm279 cd279 ct279 : Value} {f302 : Addr} {od302 an302 : Option Addr} {sl302 : Array (Option Value)} {oc302 kV302 dc302 pm302 cd302 ct302 : Value} {f306 : Addr} {od306 an306 : Option Addr} {sl306 : Array (Option Value)} {oc306 kV306 dc306 pm306 cd306 ct306 : Value} {f304 : Addr} {od304 an304 : Option Addr} {sl304 : Array (Option Value)} {oc304 kV304 dc304 pm304 cd304 ct304 : Value} {f268 : Addr} {od268 an268 : Option Addr} {sl268 : Array (Option Value)} {oc268 kV268 dc268 pm268 cd268 ct268 : Value} {f270 : Addr} {od270 an270 : Option Addr} {sl270 : Array (Option Value)} {oc270 kV270 dc270 pm270 cd270 ct270 : Value} {f271 : Addr} {od271 an271 : Option Addr} {sl271 : Array (Option Value)} {oc271 kV271 dc271 pm271 cd271 ct271 : Value} {f269 : Addr} {od269 an269 : Option Addr} {sl269 : Array (Option Value)} {oc269 kV269 dc269 pm269 cd269 ct269 : Value} {f202 : Addr} {od202 an202 : Option Addr} {sl202 : Array (Option Value)} {oc202 kV202 dc202 pm202 cd202 ct202 : Value} {f206 : Addr} {od206 an206 : Option Addr} {sl206 : Array (Option Value)} {oc206 kV206 dc206 pm206 cd206 ct206 : Value} {f207 : Addr} {od207 an207 : Option Addr} {sl207 : Array (Option Value)} {oc207 kV207 dc207 pm207 cd207 ct207 : Value} {f205 : Addr} {od205 an205 : Option Addr} {sl205 : Array (Option Value)} {oc205 kV205 dc205 pm205 cd205 ct205 : Value} {f203 : Addr} {od203 an203 : Option Addr} {sl203 : Array (Option Value)} {oc203 kV203 dc203 pm203 cd203 ct203 : Value} {f209 : Addr} {od209 an209 : Option Addr} {sl209 : Array (Option Value)} {oc209 kV209 dc209 pm209 cd209 ct209 : Value} {f211 : Addr} {od211 an211 : Option Addr} {sl211 : Array (Option Value)} {oc211 kV211 dc211 pm211 cd211 ct211 : Value} {f212 : Addr} {od212 an212 : Option Addr} {sl212 : Array (Option Value)} {oc212 kV212 dc212 pm212 cd212 ct212 : Value} {f217 : Addr} {od217 an217 : Option Addr} {sl217 : Array (Option Value)} {oc217 kV217 dc217 pm217 cd217 ct217 : Value} {f218 : Addr} {od218 an218 : Option Addr} {sl218 : Array (Option Value)} {oc218 kV218 dc218 pm218 cd218 ct218 : Value} {f225 : Addr} {od225 an225 : Option Addr} {sl225 : Array (Option Value)} {oc225 kV225 dc225 pm225 cd225 ct225 : Value} {f220 : Addr} {od220 an220 : Option Addr} {sl220 : Array (Option Value)} {oc220 kV220 dc220 pm220 cd220 ct220 : Value} {f224 : Addr} {od224 an224 : Option Addr} {sl224 : Array (Option Value)} {oc224 kV224 dc224 pm224 cd224 ct224 : Value} {f221 : Addr} {od221 an221 : Option Addr} {sl221 : Array (Option Value)} {oc221 kV221 dc221 pm221 cd221 ct221 : Value} {f219 : Addr} {od219 an219 : Option Addr} {sl219 : Array (Option Value)} {oc219 kV219 dc219 pm219 cd219 ct219 : Value} {f222 : Addr} {od222 an222 : Option Addr} {sl222 : Array (Option Value)} {oc222 kV222 dc222 pm222 cd222 ct222 : Value} {f223 : Addr} {od223 an223 : Option Addr} {sl223 : Array (Option Value)} {oc223 kV223 dc223 pm223 cd223 ct223 : Value} {f337 : Addr} {od337 an337 : Option Addr} {sl337 : Array (Option Value)} {oc337 kV337 dc337 pm337 cd337 ct337 : Value} {f334 : Addr} {od334 an334 : Option Addr} {sl334 : Array (Option Value)} {oc334 kV334 dc334 pm334 cd334 ct334 : Value} {f294 : Addr} {od294 an294 : Option Addr} {sl294 : Array (Option Value)} {oc294 kV294 dc294 pm294 cd294 ct294 : Value} {f295 : Addr} {od295 an295 : Option Addr} {sl295 : Array (Option Value)} {oc295 kV295 dc295 pm295 cd295 ct295 : Value} {f298 : Addr} {od298 an298 : Option Addr} {sl298 : Array (Option Value)} {oc298 kV298 dc298 pm298 cd298 ct298 : Value} {f299 : Addr} {od299 an299 : Option Addr} {sl299 : Array (Option Value)} {oc299 kV299 dc299 pm299 cd299 ct299 : Value} {f309 : Addr} {od309 an309 : Option Addr} {sl309 : Array (Option Value)} {oc309 kV309 dc309 pm309 cd309 ct309 : Value} {f310 : Addr} {od310 an310 : Option Addr} {sl310 : Array (Option Value)} {oc310 kV310 dc310 pm310 cd310 ct310 : Value} {t287 : Tok} {t264 : Tok} {t260 : Tok} {t262 : Tok} {t240 : Tok} {t243 : Tok} {t263 : Tok} {t245 : Tok} {t242 : Tok} {t230 : Tok} {t247 : Tok} {t236 : Tok} {t246 : Tok} {t231 : Tok} {t237 : Tok} {t291 : Tok} {t232 : Tok} {t286 : Tok} {t292 : Tok} {t215 : Tok} {t265 : Tok} {t229 : Tok} {t261 : Tok} {t233 : Tok} {t228 : Tok} {t239 : Tok} {t238 : Tok} {t259 : Tok} {t288 : Tok} {t289 : Tok} {t258 : Tok} {t200 : Tok} {t266 : Tok} {t234 : Tok} {a235 : Addr} {od235 : Option Addr} {nn235 : Nat} {sl235 : Array (Option Value)} {t235y0 : Tok} {t235y1 : Tok} {t235y2 : Tok} {t235y3 : Tok} {t244 : Tok} {t241 : Tok} (X : K.In h) (G : h.Ns mainGlobals mg) (hfa : mg "answers" = some (.ref fa))
    (a248 : PySem.W.nsIn K mainGlobals "Model" = some (some (.ref C248)))
    (pg248 : PySem.W.plainGet K C248 Str.empty = true)
    (hd248 : PySem.W.hasDictIn K C248 = true)
    (po248 : PySem.W.plainOver K C248 = true)
    (sa248 : PySem.W.findIn K (.ref C248) "__setattr__" = some (some (.builtin "object.__setattr__")))
    (mk248 : PySem.W.makesIn K C248 = true)
    (kc248 : PySem.W.keepIn K (.ref C248) = true)
    (n257 : PySem.W.findIn K (.ref C248) "symbols" = some none)
    (n255 : PySem.W.findIn K (.ref C248) "slowness" = some none)
    (n253 : PySem.W.findIn K (.ref C248) "seen" = some none)
    (n250 : PySem.W.findIn K (.ref C248) "begins" = some none)
    (a277 : PySem.W.nsIn K mainGlobals "Row" = some (some (.ref C277)))
    (pg277 : PySem.W.plainGet K C277 Str.empty = true)
    (hd277 : PySem.W.hasDictIn K C277 = true)
    (po277 : PySem.W.plainOver K C277 = true)
    (sa277 : PySem.W.findIn K (.ref C277) "__setattr__" = some (some (.builtin "object.__setattr__")))
    (mk277 : PySem.W.makesIn K C277 = true)
    (kc277 : PySem.W.keepIn K (.ref C277) = true)
    (n281 : PySem.W.findIn K (.ref C277) "lanes" = some none)
    (n282 : PySem.W.findIn K (.ref C277) "models" = some none)
    (n284 : PySem.W.findIn K (.ref C277) "total" = some none)
    (n285 : PySem.W.findIn K (.ref C277) "waiting" = some none)
    (a301 : PySem.W.nsIn K mainGlobals "Writer" = some (some (.ref C301)))
    (pg301 : PySem.W.plainGet K C301 Str.empty = true)
    (hd301 : PySem.W.hasDictIn K C301 = true)
    (po301 : PySem.W.plainOver K C301 = true)
    (sa301 : PySem.W.findIn K (.ref C301) "__setattr__" = some (some (.builtin "object.__setattr__")))
    (mk301 : PySem.W.makesIn K C301 = true)
    (kc301 : PySem.W.keepIn K (.ref C301) = true)
    (n303 : PySem.W.findIn K (.ref C301) "row" = some none)
    (n305 : PySem.W.findIn K (.ref C301) "shares" = some none)
    (a300 : PySem.W.nsIn K mainGlobals "WordLacks" = some (some (.ref C300)))
    (x300 : PySem.W.excIn K C300 [.type "Exception", .type "BaseException", .type "object"] "Exception.__new__" = true)
    (a267 : PySem.W.nsIn K mainGlobals "Reader" = some (some (.ref C267)))
    (pg267 : PySem.W.plainGet K C267 Str.empty = true)
    (hd267 : PySem.W.hasDictIn K C267 = true)
    (po267 : PySem.W.plainOver K C267 = true)
    (sa267 : PySem.W.findIn K (.ref C267) "__setattr__" = some (some (.builtin "object.__setattr__")))
    (mk267 : PySem.W.makesIn K C267 = true)
    (kc267 : PySem.W.keepIn K (.ref C267) = true)
    (n272 : PySem.W.findIn K (.ref C267) "row" = some none)
    (n273 : PySem.W.findIn K (.ref C267) "states" = some none)
    (n275 : PySem.W.findIn K (.ref C267) "words" = some none)
    (n276 : PySem.W.findIn K (.ref C267) "words_read" = some none)
    (n274 : PySem.W.findIn K (.ref C267) "stopped" = some none)
    (a201 : PySem.W.nsIn K mainGlobals "Attempt" = some (some (.ref C201)))
    (pg201 : PySem.W.plainGet K C201 Str.empty = true)
    (hd201 : PySem.W.hasDictIn K C201 = true)
    (po201 : PySem.W.plainOver K C201 = true)
    (sa201 : PySem.W.findIn K (.ref C201) "__setattr__" = some (some (.builtin "object.__setattr__")))
    (mk201 : PySem.W.makesIn K C201 = true)
    (kc201 : PySem.W.keepIn K (.ref C201) = true)
    (n208 : PySem.W.findIn K (.ref C201) "row" = some none)
    (n210 : PySem.W.findIn K (.ref C201) "states" = some none)
    (n213 : PySem.W.findIn K (.ref C201) "words" = some none)
    (n214 : PySem.W.findIn K (.ref C201) "words_read" = some none)
    (n204 : PySem.W.findIn K (.ref C201) "pieces" = some none)
    (a216 : PySem.W.nsIn K mainGlobals "Coder" = some (some (.ref C216)))
    (pg216 : PySem.W.plainGet K C216 Str.empty = true)
    (hd216 : PySem.W.hasDictIn K C216 = true)
    (po216 : PySem.W.plainOver K C216 = true)
    (sa216 : PySem.W.findIn K (.ref C216) "__setattr__" = some (some (.builtin "object.__setattr__")))
    (mk216 : PySem.W.makesIn K C216 = true)
    (kc216 : PySem.W.keepIn K (.ref C216) = true)
    (n227 : PySem.W.findIn K (.ref C216) "writer" = some none)
    (n226 : PySem.W.findIn K (.ref C216) "reader" = some none)
    (a293 : PySem.W.nsIn K mainGlobals "Walk" = some (some (.ref C293)))
    (pg293 : PySem.W.plainGet K C293 Str.empty = true)
    (hd293 : PySem.W.hasDictIn K C293 = true)
    (po293 : PySem.W.plainOver K C293 = true)
    (sa293 : PySem.W.findIn K (.ref C293) "__setattr__" = some (some (.builtin "object.__setattr__")))
    (mk293 : PySem.W.makesIn K C293 = true)
    (kc293 : PySem.W.keepIn K (.ref C293) = true)
    (n296 : PySem.W.findIn K (.ref C293) "numbers" = some none)
    (n297 : PySem.W.findIn K (.ref C293) "place" = some none)
    (a320 : PySem.W.nsIn K mainGlobals "kind_fits" = some (some (.ref f320)))
    (l320 : K.lookup f320 = some ⟨oc320, od320, .func (PySem.W.fnOf "kind_fits" "kind_fits" (defArgs s_kind_fits) (defBody s_kind_fits) (defScope s_kind_fits) .none kV320 dc320 pm320 an320 cd320 ct320), sl320⟩)
    (c320 : PySem.W.codeIn K cd320 "kind_fits" = true)
    (k320 : PySem.W.keepIn K (.ref f320) = true)
    (a329 : PySem.W.nsIn K mainGlobals "number_class" = some (some (.ref f329)))
    (l329 : K.lookup f329 = some ⟨oc329, od329, .func (PySem.W.fnOf "number_class" "number_class" (defArgs s_number_class) (defBody s_number_class) (defScope s_number_class) .none kV329 dc329 pm329 an329 cd329 ct329), sl329⟩)
    (c329 : PySem.W.codeIn K cd329 "number_class" = true)
    (k329 : PySem.W.keepIn K (.ref f329) = true)
    (a338 : PySem.W.nsIn K mainGlobals "value_fits" = some (some (.ref f338)))
    (l338 : K.lookup f338 = some ⟨oc338, od338, .func (PySem.W.fnOf "value_fits" "value_fits" (defArgs s_value_fits) (defBody s_value_fits) (defScope s_value_fits) .none kV338 dc338 pm338 an338 cd338 ct338), sl338⟩)
    (c338 : PySem.W.codeIn K cd338 "value_fits" = true)
    (k338 : PySem.W.keepIn K (.ref f338) = true)
    (a317 : PySem.W.nsIn K mainGlobals "item_fits" = some (some (.ref f317)))
    (l317 : K.lookup f317 = some ⟨oc317, od317, .func (PySem.W.fnOf "item_fits" "item_fits" (defArgs s_item_fits) (defBody s_item_fits) (defScope s_item_fits) .none kV317 dc317 pm317 an317 cd317 ct317), sl317⟩)
    (c317 : PySem.W.codeIn K cd317 "item_fits" = true)
    (k317 : PySem.W.keepIn K (.ref f317) = true)
    (a319 : PySem.W.nsIn K mainGlobals "items_fit" = some (some (.ref f319)))
    (l319 : K.lookup f319 = some ⟨oc319, od319, .func (PySem.W.fnOf "items_fit" "items_fit" (defArgs s_items_fit) (defBody s_items_fit) (defScope s_items_fit) .none kV319 dc319 pm319 an319 cd319 ct319), sl319⟩)
    (c319 : PySem.W.codeIn K cd319 "items_fit" = true)
    (k319 : PySem.W.keepIn K (.ref f319) = true)
    (a321 : PySem.W.nsIn K mainGlobals "kinds_fit" = some (some (.ref f321)))
    (l321 : K.lookup f321 = some ⟨oc321, od321, .func (PySem.W.fnOf "kinds_fit" "kinds_fit" (defArgs s_kinds_fit) (defBody s_kinds_fit) (defScope s_kinds_fit) .none kV321 dc321 pm321 an321 cd321 ct321), sl321⟩)
    (c321 : PySem.W.codeIn K cd321 "kinds_fit" = true)
    (k321 : PySem.W.keepIn K (.ref f321) = true)
    (a311 : PySem.W.nsIn K mainGlobals "bit_pieces" = some (some (.ref f311)))
    (l311 : K.lookup f311 = some ⟨oc311, od311, .func (PySem.W.fnOf "bit_pieces" "bit_pieces" (defArgs s_bit_pieces) (defBody s_bit_pieces) (defScope s_bit_pieces) .none kV311 dc311 pm311 an311 cd311 ct311), sl311⟩)
    (c311 : PySem.W.codeIn K cd311 "bit_pieces" = true)
    (k311 : PySem.W.keepIn K (.ref f311) = true)
    (a318 : PySem.W.nsIn K mainGlobals "item_pieces" = some (some (.ref f318)))
    (l318 : K.lookup f318 = some ⟨oc318, od318, .func (PySem.W.fnOf "item_pieces" "item_pieces" (defArgs s_item_pieces) (defBody s_item_pieces) (defScope s_item_pieces) .none kV318 dc318 pm318 an318 cd318 ct318), sl318⟩)
    (c318 : PySem.W.codeIn K cd318 "item_pieces" = true)
    (k318 : PySem.W.keepIn K (.ref f318) = true)
    (a308 : PySem.W.nsIn K mainGlobals "all_pieces" = some (some (.ref f308)))
    (l308 : K.lookup f308 = some ⟨oc308, od308, .func (PySem.W.fnOf "all_pieces" "all_pieces" (defArgs s_all_pieces) (defBody s_all_pieces) (defScope s_all_pieces) .none kV308 dc308 pm308 an308 cd308 ct308), sl308⟩)
    (c308 : PySem.W.codeIn K cd308 "all_pieces" = true)
    (k308 : PySem.W.keepIn K (.ref f308) = true)
    (a249 : PySem.W.findIn K (.ref C248) "__init__" = some (some (.ref f249)))
    (i249 : PySem.W.isFn K (.ref f249) = true)
    (l249 : K.lookup f249 = some ⟨oc249, od249, .func (PySem.W.fnOf "__init__" "Model.__init__" (defArgs s_Model___init__) (defBody s_Model___init__) (defScope s_Model___init__) .none kV249 dc249 pm249 an249 cd249 ct249), sl249⟩)
    (c249 : PySem.W.codeIn K cd249 "Model.__init__" = true)
    (k249 : PySem.W.keepIn K (.ref f249) = true)
    (a254 : PySem.W.findIn K (.ref C248) "share" = some (some (.ref f254)))
    (i254 : PySem.W.isFn K (.ref f254) = true)
    (l254 : K.lookup f254 = some ⟨oc254, od254, .func (PySem.W.fnOf "share" "Model.share" (defArgs s_Model_share) (defBody s_Model_share) (defScope s_Model_share) .none kV254 dc254 pm254 an254 cd254 ct254), sl254⟩)
    (c254 : PySem.W.codeIn K cd254 "Model.share" = true)
    (k254 : PySem.W.keepIn K (.ref f254) = true)
    (a256 : PySem.W.findIn K (.ref C248) "symbol_at" = some (some (.ref f256)))
    (i256 : PySem.W.isFn K (.ref f256) = true)
    (l256 : K.lookup f256 = some ⟨oc256, od256, .func (PySem.W.fnOf "symbol_at" "Model.symbol_at" (defArgs s_Model_symbol_at) (defBody s_Model_symbol_at) (defScope s_Model_symbol_at) .none kV256 dc256 pm256 an256 cd256 ct256), sl256⟩)
    (c256 : PySem.W.codeIn K cd256 "Model.symbol_at" = true)
    (k256 : PySem.W.keepIn K (.ref f256) = true)
    (a251 : PySem.W.findIn K (.ref C248) "rate" = some (some (.ref f251)))
    (i251 : PySem.W.isFn K (.ref f251) = true)
    (l251 : K.lookup f251 = some ⟨oc251, od251, .func (PySem.W.fnOf "rate" "Model.rate" (defArgs s_Model_rate) (defBody s_Model_rate) (defScope s_Model_rate) .none kV251 dc251 pm251 an251 cd251 ct251), sl251⟩)
    (c251 : PySem.W.codeIn K cd251 "Model.rate" = true)
    (k251 : PySem.W.keepIn K (.ref f251) = true)
    (a252 : PySem.W.findIn K (.ref C248) "see" = some (some (.ref f252)))
    (i252 : PySem.W.isFn K (.ref f252) = true)
    (l252 : K.lookup f252 = some ⟨oc252, od252, .func (PySem.W.fnOf "see" "Model.see" (defArgs s_Model_see) (defBody s_Model_see) (defScope s_Model_see) .none kV252 dc252 pm252 an252 cd252 ct252), sl252⟩)
    (c252 : PySem.W.codeIn K cd252 "Model.see" = true)
    (k252 : PySem.W.keepIn K (.ref f252) = true)
    (a326 : PySem.W.nsIn K mainGlobals "model_fits" = some (some (.ref f326)))
    (l326 : K.lookup f326 = some ⟨oc326, od326, .func (PySem.W.fnOf "model_fits" "model_fits" (defArgs s_model_fits) (defBody s_model_fits) (defScope s_model_fits) .none kV326 dc326 pm326 an326 cd326 ct326), sl326⟩)
    (c326 : PySem.W.codeIn K cd326 "model_fits" = true)
    (k326 : PySem.W.keepIn K (.ref f326) = true)
    (a327 : PySem.W.nsIn K mainGlobals "models_fit" = some (some (.ref f327)))
    (l327 : K.lookup f327 = some ⟨oc327, od327, .func (PySem.W.fnOf "models_fit" "models_fit" (defArgs s_models_fit) (defBody s_models_fit) (defScope s_models_fit) .none kV327 dc327 pm327 an327 cd327 ct327), sl327⟩)
    (c327 : PySem.W.codeIn K cd327 "models_fit" = true)
    (k327 : PySem.W.keepIn K (.ref f327) = true)
    (a328 : PySem.W.nsIn K mainGlobals "new_models" = some (some (.ref f328)))
    (l328 : K.lookup f328 = some ⟨oc328, od328, .func (PySem.W.fnOf "new_models" "new_models" (defArgs s_new_models) (defBody s_new_models) (defScope s_new_models) .none kV328 dc328 pm328 an328 cd328 ct328), sl328⟩)
    (c328 : PySem.W.codeIn K cd328 "new_models" = true)
    (k328 : PySem.W.keepIn K (.ref f328) = true)
    (a312 : PySem.W.nsIn K mainGlobals "coded" = some (some (.ref f312)))
    (l312 : K.lookup f312 = some ⟨oc312, od312, .func (PySem.W.fnOf "coded" "coded" (defArgs s_coded) (defBody s_coded) (defScope s_coded) .none kV312 dc312 pm312 an312 cd312 ct312), sl312⟩)
    (c312 : PySem.W.codeIn K cd312 "coded" = true)
    (k312 : PySem.W.keepIn K (.ref f312) = true)
    (a336 : PySem.W.nsIn K mainGlobals "taken_out" = some (some (.ref f336)))
    (l336 : K.lookup f336 = some ⟨oc336, od336, .func (PySem.W.fnOf "taken_out" "taken_out" (defArgs s_taken_out) (defBody s_taken_out) (defScope s_taken_out) .none kV336 dc336 pm336 an336 cd336 ct336), sl336⟩)
    (c336 : PySem.W.codeIn K cd336 "taken_out" = true)
    (k336 : PySem.W.keepIn K (.ref f336) = true)
    (a316 : PySem.W.nsIn K mainGlobals "is_full" = some (some (.ref f316)))
    (l316 : K.lookup f316 = some ⟨oc316, od316, .func (PySem.W.fnOf "is_full" "is_full" (defArgs s_is_full) (defBody s_is_full) (defScope s_is_full) .none kV316 dc316 pm316 an316 cd316 ct316), sl316⟩)
    (c316 : PySem.W.codeIn K cd316 "is_full" = true)
    (k316 : PySem.W.keepIn K (.ref f316) = true)
    (a333 : PySem.W.nsIn K mainGlobals "row_bytes" = some (some (.ref f333)))
    (l333 : K.lookup f333 = some ⟨oc333, od333, .func (PySem.W.fnOf "row_bytes" "row_bytes" (defArgs s_row_bytes) (defBody s_row_bytes) (defScope s_row_bytes) .none kV333 dc333 pm333 an333 cd333 ct333), sl333⟩)
    (c333 : PySem.W.codeIn K cd333 "row_bytes" = true)
    (k333 : PySem.W.keepIn K (.ref f333) = true)
    (a324 : PySem.W.nsIn K mainGlobals "low_first" = some (some (.ref f324)))
    (l324 : K.lookup f324 = some ⟨oc324, od324, .func (PySem.W.fnOf "low_first" "low_first" (defArgs s_low_first) (defBody s_low_first) (defScope s_low_first) .none kV324 dc324 pm324 an324 cd324 ct324), sl324⟩)
    (c324 : PySem.W.codeIn K cd324 "low_first" = true)
    (k324 : PySem.W.keepIn K (.ref f324) = true)
    (a315 : PySem.W.nsIn K mainGlobals "from_low_first" = some (some (.ref f315)))
    (l315 : K.lookup f315 = some ⟨oc315, od315, .func (PySem.W.fnOf "from_low_first" "from_low_first" (defArgs s_from_low_first) (defBody s_from_low_first) (defScope s_from_low_first) .none kV315 dc315 pm315 an315 cd315 ct315), sl315⟩)
    (c315 : PySem.W.codeIn K cd315 "from_low_first" = true)
    (k315 : PySem.W.keepIn K (.ref f315) = true)
    (a330 : PySem.W.nsIn K mainGlobals "numbers_of_size" = some (some (.ref f330)))
    (l330 : K.lookup f330 = some ⟨oc330, od330, .func (PySem.W.fnOf "numbers_of_size" "numbers_of_size" (defArgs s_numbers_of_size) (defBody s_numbers_of_size) (defScope s_numbers_of_size) .none kV330 dc330 pm330 an330 cd330 ct330), sl330⟩)
    (c330 : PySem.W.codeIn K cd330 "numbers_of_size" = true)
    (k330 : PySem.W.keepIn K (.ref f330) = true)
    (a335 : PySem.W.nsIn K mainGlobals "states_in" = some (some (.ref f335)))
    (l335 : K.lookup f335 = some ⟨oc335, od335, .func (PySem.W.fnOf "states_in" "states_in" (defArgs s_states_in) (defBody s_states_in) (defScope s_states_in) .none kV335 dc335 pm335 an335 cd335 ct335), sl335⟩)
    (c335 : PySem.W.codeIn K cd335 "states_in" = true)
    (k335 : PySem.W.keepIn K (.ref f335) = true)
    (a339 : PySem.W.nsIn K mainGlobals "words_in" = some (some (.ref f339)))
    (l339 : K.lookup f339 = some ⟨oc339, od339, .func (PySem.W.fnOf "words_in" "words_in" (defArgs s_words_in) (defBody s_words_in) (defScope s_words_in) .none kV339 dc339 pm339 an339 cd339 ct339), sl339⟩)
    (c339 : PySem.W.codeIn K cd339 "words_in" = true)
    (k339 : PySem.W.keepIn K (.ref f339) = true)
    (a314 : PySem.W.nsIn K mainGlobals "fault_place" = some (some (.ref f314)))
    (l314 : K.lookup f314 = some ⟨oc314, od314, .func (PySem.W.fnOf "fault_place" "fault_place" (defArgs s_fault_place) (defBody s_fault_place) (defScope s_fault_place) .none kV314 dc314 pm314 an314 cd314 ct314), sl314⟩)
    (c314 : PySem.W.codeIn K cd314 "fault_place" = true)
    (k314 : PySem.W.keepIn K (.ref f314) = true)
    (a278 : PySem.W.findIn K (.ref C277) "__init__" = some (some (.ref f278)))
    (i278 : PySem.W.isFn K (.ref f278) = true)
    (l278 : K.lookup f278 = some ⟨oc278, od278, .func (PySem.W.fnOf "__init__" "Row.__init__" (defArgs s_Row___init__) (defBody s_Row___init__) (defScope s_Row___init__) .none kV278 dc278 pm278 an278 cd278 ct278), sl278⟩)
    (c278 : PySem.W.codeIn K cd278 "Row.__init__" = true)
    (k278 : PySem.W.keepIn K (.ref f278) = true)
    (a283 : PySem.W.findIn K (.ref C277) "piece_share" = some (some (.ref f283)))
    (i283 : PySem.W.isFn K (.ref f283) = true)
    (l283 : K.lookup f283 = some ⟨oc283, od283, .func (PySem.W.fnOf "piece_share" "Row.piece_share" (defArgs s_Row_piece_share) (defBody s_Row_piece_share) (defScope s_Row_piece_share) .none kV283 dc283 pm283 an283 cd283 ct283), sl283⟩)
    (c283 : PySem.W.codeIn K cd283 "Row.piece_share" = true)
    (k283 : PySem.W.keepIn K (.ref f283) = true)
    (a280 : PySem.W.findIn K (.ref C277) "go_by" = some (some (.ref f280)))
    (i280 : PySem.W.isFn K (.ref f280) = true)
    (l280 : K.lookup f280 = some ⟨oc280, od280, .func (PySem.W.fnOf "go_by" "Row.go_by" (defArgs s_Row_go_by) (defBody s_Row_go_by) (defScope s_Row_go_by) .none kV280 dc280 pm280 an280 cd280 ct280), sl280⟩)
    (c280 : PySem.W.codeIn K cd280 "Row.go_by" = true)
    (k280 : PySem.W.keepIn K (.ref f280) = true)
    (a279 : PySem.W.findIn K (.ref C277) "end_group" = some (some (.ref f279)))
    (i279 : PySem.W.isFn K (.ref f279) = true)
    (l279 : K.lookup f279 = some ⟨oc279, od279, .func (PySem.W.fnOf "end_group" "Row.end_group" (defArgs s_Row_end_group) (defBody s_Row_end_group) (defScope s_Row_end_group) .none kV279 dc279 pm279 an279 cd279 ct279), sl279⟩)
    (c279 : PySem.W.codeIn K cd279 "Row.end_group" = true)
    (k279 : PySem.W.keepIn K (.ref f279) = true)
    (a302 : PySem.W.findIn K (.ref C301) "__init__" = some (some (.ref f302)))
    (i302 : PySem.W.isFn K (.ref f302) = true)
    (l302 : K.lookup f302 = some ⟨oc302, od302, .func (PySem.W.fnOf "__init__" "Writer.__init__" (defArgs s_Writer___init__) (defBody s_Writer___init__) (defScope s_Writer___init__) .none kV302 dc302 pm302 an302 cd302 ct302), sl302⟩)
    (c302 : PySem.W.codeIn K cd302 "Writer.__init__" = true)
    (k302 : PySem.W.keepIn K (.ref f302) = true)
    (a306 : PySem.W.findIn K (.ref C301) "write" = some (some (.ref f306)))
    (i306 : PySem.W.isFn K (.ref f306) = true)
    (l306 : K.lookup f306 = some ⟨oc306, od306, .func (PySem.W.fnOf "write" "Writer.write" (defArgs s_Writer_write) (defBody s_Writer_write) (defScope s_Writer_write) .none kV306 dc306 pm306 an306 cd306 ct306), sl306⟩)
    (c306 : PySem.W.codeIn K cd306 "Writer.write" = true)
    (k306 : PySem.W.keepIn K (.ref f306) = true)
    (a304 : PySem.W.findIn K (.ref C301) "row_coded" = some (some (.ref f304)))
    (i304 : PySem.W.isFn K (.ref f304) = true)
    (l304 : K.lookup f304 = some ⟨oc304, od304, .func (PySem.W.fnOf "row_coded" "Writer.row_coded" (defArgs s_Writer_row_coded) (defBody s_Writer_row_coded) (defScope s_Writer_row_coded) .none kV304 dc304 pm304 an304 cd304 ct304), sl304⟩)
    (c304 : PySem.W.codeIn K cd304 "Writer.row_coded" = true)
    (k304 : PySem.W.keepIn K (.ref f304) = true)
    (a268 : PySem.W.findIn K (.ref C267) "__init__" = some (some (.ref f268)))
    (i268 : PySem.W.isFn K (.ref f268) = true)
    (l268 : K.lookup f268 = some ⟨oc268, od268, .func (PySem.W.fnOf "__init__" "Reader.__init__" (defArgs s_Reader___init__) (defBody s_Reader___init__) (defScope s_Reader___init__) .none kV268 dc268 pm268 an268 cd268 ct268), sl268⟩)
    (c268 : PySem.W.codeIn K cd268 "Reader.__init__" = true)
    (k268 : PySem.W.keepIn K (.ref f268) = true)
    (a270 : PySem.W.findIn K (.ref C267) "read" = some (some (.ref f270)))
    (i270 : PySem.W.isFn K (.ref f270) = true)
    (l270 : K.lookup f270 = some ⟨oc270, od270, .func (PySem.W.fnOf "read" "Reader.read" (defArgs s_Reader_read) (defBody s_Reader_read) (defScope s_Reader_read) .none kV270 dc270 pm270 an270 cd270 ct270), sl270⟩)
    (c270 : PySem.W.codeIn K cd270 "Reader.read" = true)
    (k270 : PySem.W.keepIn K (.ref f270) = true)
    (a271 : PySem.W.findIn K (.ref C267) "read_whole" = some (some (.ref f271)))
    (i271 : PySem.W.isFn K (.ref f271) = true)
    (l271 : K.lookup f271 = some ⟨oc271, od271, .func (PySem.W.fnOf "read_whole" "Reader.read_whole" (defArgs s_Reader_read_whole) (defBody s_Reader_read_whole) (defScope s_Reader_read_whole) .none kV271 dc271 pm271 an271 cd271 ct271), sl271⟩)
    (c271 : PySem.W.codeIn K cd271 "Reader.read_whole" = true)
    (k271 : PySem.W.keepIn K (.ref f271) = true)
    (a269 : PySem.W.findIn K (.ref C267) "is_at_end" = some (some (.ref f269)))
    (i269 : PySem.W.isFn K (.ref f269) = true)
    (l269 : K.lookup f269 = some ⟨oc269, od269, .func (PySem.W.fnOf "is_at_end" "Reader.is_at_end" (defArgs s_Reader_is_at_end) (defBody s_Reader_is_at_end) (defScope s_Reader_is_at_end) .none kV269 dc269 pm269 an269 cd269 ct269), sl269⟩)
    (c269 : PySem.W.codeIn K cd269 "Reader.is_at_end" = true)
    (k269 : PySem.W.keepIn K (.ref f269) = true)
    (a202 : PySem.W.findIn K (.ref C201) "__init__" = some (some (.ref f202)))
    (i202 : PySem.W.isFn K (.ref f202) = true)
    (l202 : K.lookup f202 = some ⟨oc202, od202, .func (PySem.W.fnOf "__init__" "Attempt.__init__" (defArgs s_Attempt___init__) (defBody s_Attempt___init__) (defScope s_Attempt___init__) .none kV202 dc202 pm202 an202 cd202 ct202), sl202⟩)
    (c202 : PySem.W.codeIn K cd202 "Attempt.__init__" = true)
    (k202 : PySem.W.keepIn K (.ref f202) = true)
    (a206 : PySem.W.findIn K (.ref C201) "read_item" = some (some (.ref f206)))
    (i206 : PySem.W.isFn K (.ref f206) = true)
    (l206 : K.lookup f206 = some ⟨oc206, od206, .func (PySem.W.fnOf "read_item" "Attempt.read_item" (defArgs s_Attempt_read_item) (defBody s_Attempt_read_item) (defScope s_Attempt_read_item) .none kV206 dc206 pm206 an206 cd206 ct206), sl206⟩)
    (c206 : PySem.W.codeIn K cd206 "Attempt.read_item" = true)
    (k206 : PySem.W.keepIn K (.ref f206) = true)
    (a207 : PySem.W.findIn K (.ref C201) "read_symbol" = some (some (.ref f207)))
    (i207 : PySem.W.isFn K (.ref f207) = true)
    (l207 : K.lookup f207 = some ⟨oc207, od207, .func (PySem.W.fnOf "read_symbol" "Attempt.read_symbol" (defArgs s_Attempt_read_symbol) (defBody s_Attempt_read_symbol) (defScope s_Attempt_read_symbol) .none kV207 dc207 pm207 an207 cd207 ct207), sl207⟩)
    (c207 : PySem.W.codeIn K cd207 "Attempt.read_symbol" = true)
    (k207 : PySem.W.keepIn K (.ref f207) = true)
    (a205 : PySem.W.findIn K (.ref C201) "read_bits" = some (some (.ref f205)))
    (i205 : PySem.W.isFn K (.ref f205) = true)
    (l205 : K.lookup f205 = some ⟨oc205, od205, .func (PySem.W.fnOf "read_bits" "Attempt.read_bits" (defArgs s_Attempt_read_bits) (defBody s_Attempt_read_bits) (defScope s_Attempt_read_bits) .none kV205 dc205 pm205 an205 cd205 ct205), sl205⟩)
    (c205 : PySem.W.codeIn K cd205 "Attempt.read_bits" = true)
    (k205 : PySem.W.keepIn K (.ref f205) = true)
    (a203 : PySem.W.findIn K (.ref C201) "lane" = some (some (.ref f203)))
    (i203 : PySem.W.isFn K (.ref f203) = true)
    (l203 : K.lookup f203 = some ⟨oc203, od203, .func (PySem.W.fnOf "lane" "Attempt.lane" (defArgs s_Attempt_lane) (defBody s_Attempt_lane) (defScope s_Attempt_lane) .none kV203 dc203 pm203 an203 cd203 ct203), sl203⟩)
    (c203 : PySem.W.codeIn K cd203 "Attempt.lane" = true)
    (k203 : PySem.W.keepIn K (.ref f203) = true)
    (a209 : PySem.W.findIn K (.ref C201) "spot" = some (some (.ref f209)))
    (i209 : PySem.W.isFn K (.ref f209) = true)
    (l209 : K.lookup f209 = some ⟨oc209, od209, .func (PySem.W.fnOf "spot" "Attempt.spot" (defArgs s_Attempt_spot) (defBody s_Attempt_spot) (defScope s_Attempt_spot) .none kV209 dc209 pm209 an209 cd209 ct209), sl209⟩)
    (c209 : PySem.W.codeIn K cd209 "Attempt.spot" = true)
    (k209 : PySem.W.keepIn K (.ref f209) = true)
    (a211 : PySem.W.findIn K (.ref C201) "take_out" = some (some (.ref f211)))
    (i211 : PySem.W.isFn K (.ref f211) = true)
    (l211 : K.lookup f211 = some ⟨oc211, od211, .func (PySem.W.fnOf "take_out" "Attempt.take_out" (defArgs s_Attempt_take_out) (defBody s_Attempt_take_out) (defScope s_Attempt_take_out) .none kV211 dc211 pm211 an211 cd211 ct211), sl211⟩)
    (c211 : PySem.W.codeIn K cd211 "Attempt.take_out" = true)
    (k211 : PySem.W.keepIn K (.ref f211) = true)
    (a212 : PySem.W.findIn K (.ref C201) "take_word" = some (some (.ref f212)))
    (i212 : PySem.W.isFn K (.ref f212) = true)
    (l212 : K.lookup f212 = some ⟨oc212, od212, .func (PySem.W.fnOf "take_word" "Attempt.take_word" (defArgs s_Attempt_take_word) (defBody s_Attempt_take_word) (defScope s_Attempt_take_word) .none kV212 dc212 pm212 an212 cd212 ct212), sl212⟩)
    (c212 : PySem.W.codeIn K cd212 "Attempt.take_word" = true)
    (k212 : PySem.W.keepIn K (.ref f212) = true)
    (a217 : PySem.W.findIn K (.ref C216) "__init__" = some (some (.ref f217)))
    (i217 : PySem.W.isFn K (.ref f217) = true)
    (l217 : K.lookup f217 = some ⟨oc217, od217, .func (PySem.W.fnOf "__init__" "Coder.__init__" (defArgs s_Coder___init__) (defBody s_Coder___init__) (defScope s_Coder___init__) .none kV217 dc217 pm217 an217 cd217 ct217), sl217⟩)
    (c217 : PySem.W.codeIn K cd217 "Coder.__init__" = true)
    (k217 : PySem.W.keepIn K (.ref f217) = true)
    (a218 : PySem.W.findIn K (.ref C216) "begin" = some (some (.ref f218)))
    (i218 : PySem.W.isFn K (.ref f218) = true)
    (l218 : K.lookup f218 = some ⟨oc218, od218, .func (PySem.W.fnOf "begin" "Coder.begin" (defArgs s_Coder_begin) (defBody s_Coder_begin) (defScope s_Coder_begin) .none kV218 dc218 pm218 an218 cd218 ct218), sl218⟩)
    (c218 : PySem.W.codeIn K cd218 "Coder.begin" = true)
    (k218 : PySem.W.keepIn K (.ref f218) = true)
    (a225 : PySem.W.findIn K (.ref C216) "put" = some (some (.ref f225)))
    (i225 : PySem.W.isFn K (.ref f225) = true)
    (l225 : K.lookup f225 = some ⟨oc225, od225, .func (PySem.W.fnOf "put" "Coder.put" (defArgs s_Coder_put) (defBody s_Coder_put) (defScope s_Coder_put) .none kV225 dc225 pm225 an225 cd225 ct225), sl225⟩)
    (c225 : PySem.W.codeIn K cd225 "Coder.put" = true)
    (k225 : PySem.W.keepIn K (.ref f225) = true)
    (a220 : PySem.W.findIn K (.ref C216) "end" = some (some (.ref f220)))
    (i220 : PySem.W.isFn K (.ref f220) = true)
    (l220 : K.lookup f220 = some ⟨oc220, od220, .func (PySem.W.fnOf "end" "Coder.end" (defArgs s_Coder_end) (defBody s_Coder_end) (defScope s_Coder_end) .none kV220 dc220 pm220 an220 cd220 ct220), sl220⟩)
    (c220 : PySem.W.codeIn K cd220 "Coder.end" = true)
    (k220 : PySem.W.keepIn K (.ref f220) = true)
    (a224 : PySem.W.findIn K (.ref C216) "open_row" = some (some (.ref f224)))
    (i224 : PySem.W.isFn K (.ref f224) = true)
    (l224 : K.lookup f224 = some ⟨oc224, od224, .func (PySem.W.fnOf "open_row" "Coder.open_row" (defArgs s_Coder_open_row) (defBody s_Coder_open_row) (defScope s_Coder_open_row) .none kV224 dc224 pm224 an224 cd224 ct224), sl224⟩)
    (c224 : PySem.W.codeIn K cd224 "Coder.open_row" = true)
    (k224 : PySem.W.keepIn K (.ref f224) = true)
    (a221 : PySem.W.findIn K (.ref C216) "get" = some (some (.ref f221)))
    (i221 : PySem.W.isFn K (.ref f221) = true)
    (l221 : K.lookup f221 = some ⟨oc221, od221, .func (PySem.W.fnOf "get" "Coder.get" (defArgs s_Coder_get) (defBody s_Coder_get) (defScope s_Coder_get) .none kV221 dc221 pm221 an221 cd221 ct221), sl221⟩)
    (c221 : PySem.W.codeIn K cd221 "Coder.get" = true)
    (k221 : PySem.W.keepIn K (.ref f221) = true)
    (a219 : PySem.W.findIn K (.ref C216) "done" = some (some (.ref f219)))
    (i219 : PySem.W.isFn K (.ref f219) = true)
    (l219 : K.lookup f219 = some ⟨oc219, od219, .func (PySem.W.fnOf "done" "Coder.done" (defArgs s_Coder_done) (defBody s_Coder_done) (defScope s_Coder_done) .none kV219 dc219 pm219 an219 cd219 ct219), sl219⟩)
    (c219 : PySem.W.codeIn K cd219 "Coder.done" = true)
    (k219 : PySem.W.keepIn K (.ref f219) = true)
    (a222 : PySem.W.findIn K (.ref C216) "model" = some (some (.ref f222)))
    (i222 : PySem.W.isFn K (.ref f222) = true)
    (l222 : K.lookup f222 = some ⟨oc222, od222, .func (PySem.W.fnOf "model" "Coder.model" (defArgs s_Coder_model) (defBody s_Coder_model) (defScope s_Coder_model) .none kV222 dc222 pm222 an222 cd222 ct222), sl222⟩)
    (c222 : PySem.W.codeIn K cd222 "Coder.model" = true)
    (k222 : PySem.W.keepIn K (.ref f222) = true)
    (a223 : PySem.W.findIn K (.ref C216) "models_now" = some (some (.ref f223)))
    (i223 : PySem.W.isFn K (.ref f223) = true)
    (l223 : K.lookup f223 = some ⟨oc223, od223, .func (PySem.W.fnOf "models_now" "Coder.models_now" (defArgs s_Coder_models_now) (defBody s_Coder_models_now) (defScope s_Coder_models_now) .none kV223 dc223 pm223 an223 cd223 ct223), sl223⟩)
    (c223 : PySem.W.codeIn K cd223 "Coder.models_now" = true)
    (k223 : PySem.W.keepIn K (.ref f223) = true)
    (a337 : PySem.W.nsIn K mainGlobals "told_list" = some (some (.ref f337)))
    (l337 : K.lookup f337 = some ⟨oc337, od337, .func (PySem.W.fnOf "told_list" "told_list" (defArgs s_told_list) (defBody s_told_list) (defScope s_told_list) .none kV337 dc337 pm337 an337 cd337 ct337), sl337⟩)
    (c337 : PySem.W.codeIn K cd337 "told_list" = true)
    (k337 : PySem.W.keepIn K (.ref f337) = true)
    (a334 : PySem.W.nsIn K mainGlobals "row_fits" = some (some (.ref f334)))
    (l334 : K.lookup f334 = some ⟨oc334, od334, .func (PySem.W.fnOf "row_fits" "row_fits" (defArgs s_row_fits) (defBody s_row_fits) (defScope s_row_fits) .none kV334 dc334 pm334 an334 cd334 ct334), sl334⟩)
    (c334 : PySem.W.codeIn K cd334 "row_fits" = true)
    (k334 : PySem.W.keepIn K (.ref f334) = true)
    (a294 : PySem.W.findIn K (.ref C293) "__init__" = some (some (.ref f294)))
    (i294 : PySem.W.isFn K (.ref f294) = true)
    (l294 : K.lookup f294 = some ⟨oc294, od294, .func (PySem.W.fnOf "__init__" "Walk.__init__" (defArgs s_Walk___init__) (defBody s_Walk___init__) (defScope s_Walk___init__) .none kV294 dc294 pm294 an294 cd294 ct294), sl294⟩)
    (c294 : PySem.W.codeIn K cd294 "Walk.__init__" = true)
    (k294 : PySem.W.keepIn K (.ref f294) = true)
    (a295 : PySem.W.findIn K (.ref C293) "is_over" = some (some (.ref f295)))
    (i295 : PySem.W.isFn K (.ref f295) = true)
    (l295 : K.lookup f295 = some ⟨oc295, od295, .func (PySem.W.fnOf "is_over" "Walk.is_over" (defArgs s_Walk_is_over) (defBody s_Walk_is_over) (defScope s_Walk_is_over) .none kV295 dc295 pm295 an295 cd295 ct295), sl295⟩)
    (c295 : PySem.W.codeIn K cd295 "Walk.is_over" = true)
    (k295 : PySem.W.keepIn K (.ref f295) = true)
    (a298 : PySem.W.findIn K (.ref C293) "take_number" = some (some (.ref f298)))
    (i298 : PySem.W.isFn K (.ref f298) = true)
    (l298 : K.lookup f298 = some ⟨oc298, od298, .func (PySem.W.fnOf "take_number" "Walk.take_number" (defArgs s_Walk_take_number) (defBody s_Walk_take_number) (defScope s_Walk_take_number) .none kV298 dc298 pm298 an298 cd298 ct298), sl298⟩)
    (c298 : PySem.W.codeIn K cd298 "Walk.take_number" = true)
    (k298 : PySem.W.keepIn K (.ref f298) = true)
    (a299 : PySem.W.findIn K (.ref C293) "take_row" = some (some (.ref f299)))
    (i299 : PySem.W.isFn K (.ref f299) = true)
    (l299 : K.lookup f299 = some ⟨oc299, od299, .func (PySem.W.fnOf "take_row" "Walk.take_row" (defArgs s_Walk_take_row) (defBody s_Walk_take_row) (defScope s_Walk_take_row) .none kV299 dc299 pm299 an299 cd299 ct299), sl299⟩)
    (c299 : PySem.W.codeIn K cd299 "Walk.take_row" = true)
    (k299 : PySem.W.keepIn K (.ref f299) = true)
    (a309 : PySem.W.nsIn K mainGlobals "answer_one" = some (some (.ref f309)))
    (l309 : K.lookup f309 = some ⟨oc309, od309, .func (PySem.W.fnOf "answer_one" "answer_one" (defArgs s_answer_one) (defBody s_answer_one) (defScope s_answer_one) .none kV309 dc309 pm309 an309 cd309 ct309), sl309⟩)
    (c309 : PySem.W.codeIn K cd309 "answer_one" = true)
    (k309 : PySem.W.keepIn K (.ref f309) = true)
    (a310 : PySem.W.nsIn K mainGlobals "answers" = some (some (.ref f310)))
    (l310 : K.lookup f310 = some ⟨oc310, od310, .func (PySem.W.fnOf "answers" "answers" (defArgs s_answers) (defBody s_answers) (defScope s_answers) .none kV310 dc310 pm310 an310 cd310 ct310), sl310⟩)
    (c310 : PySem.W.codeIn K cd310 "answers" = true)
    (k310 : PySem.W.keepIn K (.ref f310) = true)
    (g287 : PySem.W.nsIn K mainGlobals "SYMBOL" = some (some (.int (0) t287)))
    (g264 : PySem.W.nsIn K mainGlobals "PLAIN" = some (some (.int (1) t264)))
    (g260 : PySem.W.nsIn K mainGlobals "NUMBER" = some (some (.int (2) t260)))
    (g262 : PySem.W.nsIn K mainGlobals "PIECE_BITS" = some (some (.int (15) t262)))
    (g240 : PySem.W.nsIn K mainGlobals "MOST_BITS" = some (some (.int (52) t240)))
    (g243 : PySem.W.nsIn K mainGlobals "MOST_NUMBER_SYMBOLS" = some (some (.int (52) t243)))
    (g263 : PySem.W.nsIn K mainGlobals "PLACES" = some (some (.int (32768) t263)))
    (g245 : PySem.W.nsIn K mainGlobals "MOST_SEEN" = some (some (.int (65535) t245)))
    (g242 : PySem.W.nsIn K mainGlobals "MOST_MODELS" = some (some (.int (16) t242)))
    (g230 : PySem.W.nsIn K mainGlobals "FEWEST_SYMBOLS" = some (some (.int (2) t230)))
    (g247 : PySem.W.nsIn K mainGlobals "MOST_SYMBOLS" = some (some (.int (64) t247)))
    (g236 : PySem.W.nsIn K mainGlobals "LEAST_SLOWNESS" = some (some (.int (2) t236)))
    (g246 : PySem.W.nsIn K mainGlobals "MOST_SLOWNESS" = some (some (.int (9) t246)))
    (g231 : PySem.W.nsIn K mainGlobals "FIRST_STATE" = some (some (.int (65536) t231)))
    (g237 : PySem.W.nsIn K mainGlobals "LEAST_STATE" = some (some (.int (65536) t237)))
    (g291 : PySem.W.nsIn K mainGlobals "WORD" = some (some (.int (65536) t291)))
    (g232 : PySem.W.nsIn K mainGlobals "FULL" = some (some (.int (131072) t232)))
    (g286 : PySem.W.nsIn K mainGlobals "STATE_BYTES" = some (some (.int (4) t286)))
    (g292 : PySem.W.nsIn K mainGlobals "WORD_BYTES" = some (some (.int (2) t292)))
    (g215 : PySem.W.nsIn K mainGlobals "BEGIN" = some (some (.int (0) t215)))
    (g265 : PySem.W.nsIn K mainGlobals "PUT" = some (some (.int (1) t265)))
    (g229 : PySem.W.nsIn K mainGlobals "END" = some (some (.int (2) t229)))
    (g261 : PySem.W.nsIn K mainGlobals "OPEN" = some (some (.int (3) t261)))
    (g233 : PySem.W.nsIn K mainGlobals "GET" = some (some (.int (4) t233)))
    (g228 : PySem.W.nsIn K mainGlobals "DONE" = some (some (.int (5) t228)))
    (g239 : PySem.W.nsIn K mainGlobals "MODEL" = some (some (.int (6) t239)))
    (g238 : PySem.W.nsIn K mainGlobals "MISSHAPEN" = some (some (.int (-1) t238)))
    (g259 : PySem.W.nsIn K mainGlobals "NOT_NOW" = some (some (.int (-4) t259)))
    (g288 : PySem.W.nsIn K mainGlobals "TOO_MANY" = some (some (.int (-7) t288)))
    (g289 : PySem.W.nsIn K mainGlobals "UNREADABLE" = some (some (.int (-8) t289)))
    (g258 : PySem.W.nsIn K mainGlobals "NOT_AT_END" = some (some (.int (0) t258)))
    (g200 : PySem.W.nsIn K mainGlobals "AT_END" = some (some (.int (1) t200)))
    (g266 : PySem.W.nsIn K mainGlobals "PUTTING" = some (some (.int (2) t266)))
    (g234 : PySem.W.nsIn K mainGlobals "IDLE" = some (some (.int (3) t234)))
    (g235 : PySem.W.nsIn K mainGlobals "LANES" = some (some (.ref a235)))
    (l235 : K.lookup a235 = some ⟨.type "tuple", od235, .seq #[.int 1 t235y0, .int 4 t235y1, .int 8 t235y2, .int 16 t235y3] nn235, sl235⟩)
    (g244 : PySem.W.nsIn K mainGlobals "MOST_PIECES" = some (some (.int (1000) t244)))
    (g241 : PySem.W.nsIn K mainGlobals "MOST_BYTES" = some (some (.int (4000) t241)))
    (bl307 : PySem.W.nsIn K mainGlobals "all" = some none)
    (bl313 : PySem.W.nsIn K mainGlobals "enumerate" = some none)
    (bl322 : PySem.W.nsIn K mainGlobals "len" = some none)
    (bl323 : PySem.W.nsIn K mainGlobals "list" = some none)
    (bl325 : PySem.W.nsIn K mainGlobals "min" = some none)
    (bl331 : PySem.W.nsIn K mainGlobals "range" = some none)
    (bl332 : PySem.W.nsIn K mainGlobals "reversed" = some none)
    (bl340 : PySem.W.nsIn K mainGlobals "zip" = some none) :
    ∃ fd : FuncData, (∀ (s : Shared) (us : List Value), us.length = (["calls"] : List Str).length → BindsTo s fd ⟨us, []⟩ ((["calls"] : List Str).zip us)) ∧ ∀ base : Heap, K.In base → base.Ns mainGlobals mg → FnOk P w K mg base CX0 10 fa fd ["calls"] (sp_answers (K := K)) := by
  have e := hfa.symm.trans (PySem.W.mg_of X G a310)
  cases e
  have mc300 := PySem.W.mg_of X G a300
  have F320 := fun_mk (st := s_kind_fits) l320 c320 k320
  have b320 := F320.binds (ps := ["what", "of", "models"]) fun _ _ _ _ _ _ us hl => match us, hl with | [_, _, _], _ => rfl
  have F329 := fun_mk (st := s_number_class) l329 c329 k329
  have b329 := F329.binds (ps := ["value"]) fun _ _ _ _ _ _ us hl => match us, hl with | [_], _ => rfl
  have F338 := fun_mk (st := s_value_fits) l338 c338 k338
  have b338 := F338.binds (ps := ["what", "of", "value", "models"]) fun _ _ _ _ _ _ us hl => match us, hl with | [_, _, _, _], _ => rfl
  have F317 := fun_mk (st := s_item_fits) l317 c317 k317
  have b317 := F317.binds (ps := ["what", "of", "value", "models"]) fun _ _ _ _ _ _ us hl => match us, hl with | [_, _, _, _], _ => rfl
  have F319 := fun_mk (st := s_items_fit) l319 c319 k319
  have b319 := F319.binds (ps := ["numbers", "models"]) fun _ _ _ _ _ _ us hl => match us, hl with | [_, _], _ => rfl
  have F321 := fun_mk (st := s_kinds_fit) l321 c321 k321
  have b321 := F321.binds (ps := ["numbers", "models"]) fun _ _ _ _ _ _ us hl => match us, hl with | [_, _], _ => rfl
  have F311 := fun_mk (st := s_bit_pieces) l311 c311 k311
  have b311 := F311.binds (ps := ["bits", "value"]) fun _ _ _ _ _ _ us hl => match us, hl with | [_, _], _ => rfl
  have F318 := fun_mk (st := s_item_pieces) l318 c318 k318
  have b318 := F318.binds (ps := ["what", "of", "value"]) fun _ _ _ _ _ _ us hl => match us, hl with | [_, _, _], _ => rfl
  have F308 := fun_mk (st := s_all_pieces) l308 c308 k308
  have b308 := F308.binds (ps := ["numbers"]) fun _ _ _ _ _ _ us hl => match us, hl with | [_], _ => rfl
  have F249 := fun_mk (st := s_Model___init__) l249 c249 k249
  have b249 := F249.binds (ps := ["self", "symbols", "slowness"]) fun _ _ _ _ _ _ us hl => match us, hl with | [_, _, _], _ => rfl
  have F254 := fun_mk (st := s_Model_share) l254 c254 k254
  have b254 := F254.binds (ps := ["self", "symbol"]) fun _ _ _ _ _ _ us hl => match us, hl with | [_, _], _ => rfl
  have F256 := fun_mk (st := s_Model_symbol_at) l256 c256 k256
  have b256 := F256.binds (ps := ["self", "place"]) fun _ _ _ _ _ _ us hl => match us, hl with | [_, _], _ => rfl
  have F251 := fun_mk (st := s_Model_rate) l251 c251 k251
  have b251 := F251.binds (ps := ["self"]) fun _ _ _ _ _ _ us hl => match us, hl with | [_], _ => rfl
  have F252 := fun_mk (st := s_Model_see) l252 c252 k252
  have b252 := F252.binds (ps := ["self", "symbol"]) fun _ _ _ _ _ _ us hl => match us, hl with | [_, _], _ => rfl
  have F326 := fun_mk (st := s_model_fits) l326 c326 k326
  have b326 := F326.binds (ps := ["symbols", "slowness"]) fun _ _ _ _ _ _ us hl => match us, hl with | [_, _], _ => rfl
  have F327 := fun_mk (st := s_models_fit) l327 c327 k327
  have b327 := F327.binds (ps := ["numbers"]) fun _ _ _ _ _ _ us hl => match us, hl with | [_], _ => rfl
  have F328 := fun_mk (st := s_new_models) l328 c328 k328
  have b328 := F328.binds (ps := ["numbers"]) fun _ _ _ _ _ _ us hl => match us, hl with | [_], _ => rfl
  have F312 := fun_mk (st := s_coded) l312 c312 k312
  have b312 := F312.binds (ps := ["shares", "lanes"]) fun _ _ _ _ _ _ us hl => match us, hl with | [_, _], _ => rfl
  have F336 := fun_mk (st := s_taken_out) l336 c336 k336
  have b336 := F336.binds (ps := ["state", "begin", "places"]) fun _ _ _ _ _ _ us hl => match us, hl with | [_, _, _], _ => rfl
  have F316 := fun_mk (st := s_is_full) l316 c316 k316
  have b316 := F316.binds (ps := ["state", "places"]) fun _ _ _ _ _ _ us hl => match us, hl with | [_, _], _ => rfl
  have F333 := fun_mk (st := s_row_bytes) l333 c333 k333
  have b333 := F333.binds (ps := ["states", "words"]) fun _ _ _ _ _ _ us hl => match us, hl with | [_, _], _ => rfl
  have F324 := fun_mk (st := s_low_first) l324 c324 k324
  have b324 := F324.binds (ps := ["number", "size"]) fun _ _ _ _ _ _ us hl => match us, hl with | [_, _], _ => rfl
  have F315 := fun_mk (st := s_from_low_first) l315 c315 k315
  have b315 := F315.binds (ps := ["octets"]) fun _ _ _ _ _ _ us hl => match us, hl with | [_], _ => rfl
  have F330 := fun_mk (st := s_numbers_of_size) l330 c330 k330
  have b330 := F330.binds (ps := ["octets", "size"]) fun _ _ _ _ _ _ us hl => match us, hl with | [_, _], _ => rfl
  have F335 := fun_mk (st := s_states_in) l335 c335 k335
  have b335 := F335.binds (ps := ["octets", "lanes"]) fun _ _ _ _ _ _ us hl => match us, hl with | [_, _], _ => rfl
  have F339 := fun_mk (st := s_words_in) l339 c339 k339
  have b339 := F339.binds (ps := ["octets", "lanes"]) fun _ _ _ _ _ _ us hl => match us, hl with | [_, _], _ => rfl
  have F314 := fun_mk (st := s_fault_place) l314 c314 k314
  have b314 := F314.binds (ps := ["octets", "lanes"]) fun _ _ _ _ _ _ us hl => match us, hl with | [_, _], _ => rfl
  have F278 := fun_mk (st := s_Row___init__) l278 c278 k278
  have b278 := F278.binds (ps := ["self", "lanes", "numbers"]) fun _ _ _ _ _ _ us hl => match us, hl with | [_, _, _], _ => rfl
  have F283 := fun_mk (st := s_Row_piece_share) l283 c283 k283
  have b283 := F283.binds (ps := ["self", "piece"]) fun _ _ _ _ _ _ us hl => match us, hl with | [_, _], _ => rfl
  have F280 := fun_mk (st := s_Row_go_by) l280 c280 k280
  have b280 := F280.binds (ps := ["self", "piece"]) fun _ _ _ _ _ _ us hl => match us, hl with | [_, _], _ => rfl
  have F279 := fun_mk (st := s_Row_end_group) l279 c279 k279
  have b279 := F279.binds (ps := ["self"]) fun _ _ _ _ _ _ us hl => match us, hl with | [_], _ => rfl
  have F302 := fun_mk (st := s_Writer___init__) l302 c302 k302
  have b302 := F302.binds (ps := ["self", "lanes", "numbers"]) fun _ _ _ _ _ _ us hl => match us, hl with | [_, _, _], _ => rfl
  have F306 := fun_mk (st := s_Writer_write) l306 c306 k306
  have b306 := F306.binds (ps := ["self", "pieces"]) fun _ _ _ _ _ _ us hl => match us, hl with | [_, _], _ => rfl
  have F304 := fun_mk (st := s_Writer_row_coded) l304 c304 k304
  have b304 := F304.binds (ps := ["self"]) fun _ _ _ _ _ _ us hl => match us, hl with | [_], _ => rfl
  have F268 := fun_mk (st := s_Reader___init__) l268 c268 k268
  have b268 := F268.binds (ps := ["self", "lanes", "numbers", "octets"]) fun _ _ _ _ _ _ us hl => match us, hl with | [_, _, _, _], _ => rfl
  have F270 := fun_mk (st := s_Reader_read) l270 c270 k270
  have b270 := F270.binds (ps := ["self", "numbers"]) fun _ _ _ _ _ _ us hl => match us, hl with | [_, _], _ => rfl
  have F271 := fun_mk (st := s_Reader_read_whole) l271 c271 k271
  have b271 := F271.binds (ps := ["self", "what", "of"]) fun _ _ _ _ _ _ us hl => match us, hl with | [_, _, _], _ => rfl
  have F269 := fun_mk (st := s_Reader_is_at_end) l269 c269 k269
  have b269 := F269.binds (ps := ["self"]) fun _ _ _ _ _ _ us hl => match us, hl with | [_], _ => rfl
  have F202 := fun_mk (st := s_Attempt___init__) l202 c202 k202
  have b202 := F202.binds (ps := ["self", "reader"]) fun _ _ _ _ _ _ us hl => match us, hl with | [_, _], _ => rfl
  have F206 := fun_mk (st := s_Attempt_read_item) l206 c206 k206
  have b206 := F206.binds (ps := ["self", "what", "of"]) fun _ _ _ _ _ _ us hl => match us, hl with | [_, _, _], _ => rfl
  have F207 := fun_mk (st := s_Attempt_read_symbol) l207 c207 k207
  have b207 := F207.binds (ps := ["self", "k"]) fun _ _ _ _ _ _ us hl => match us, hl with | [_, _], _ => rfl
  have F205 := fun_mk (st := s_Attempt_read_bits) l205 c205 k205
  have b205 := F205.binds (ps := ["self", "bits"]) fun _ _ _ _ _ _ us hl => match us, hl with | [_, _], _ => rfl
  have F203 := fun_mk (st := s_Attempt_lane) l203 c203 k203
  have b203 := F203.binds (ps := ["self"]) fun _ _ _ _ _ _ us hl => match us, hl with | [_], _ => rfl
  have F209 := fun_mk (st := s_Attempt_spot) l209 c209 k209
  have b209 := F209.binds (ps := ["self"]) fun _ _ _ _ _ _ us hl => match us, hl with | [_], _ => rfl
  have F211 := fun_mk (st := s_Attempt_take_out) l211 c211 k211
  have b211 := F211.binds (ps := ["self", "piece"]) fun _ _ _ _ _ _ us hl => match us, hl with | [_, _], _ => rfl
  have F212 := fun_mk (st := s_Attempt_take_word) l212 c212 k212
  have b212 := F212.binds (ps := ["self"]) fun _ _ _ _ _ _ us hl => match us, hl with | [_], _ => rfl
  have F217 := fun_mk (st := s_Coder___init__) l217 c217 k217
  have b217 := F217.binds (ps := ["self"]) fun _ _ _ _ _ _ us hl => match us, hl with | [_], _ => rfl
  have F218 := fun_mk (st := s_Coder_begin) l218 c218 k218
  have b218 := F218.binds (ps := ["self", "lanes", "models"]) fun _ _ _ _ _ _ us hl => match us, hl with | [_, _, _], _ => rfl
  have F225 := fun_mk (st := s_Coder_put) l225 c225 k225
  have b225 := F225.binds (ps := ["self", "numbers"]) fun _ _ _ _ _ _ us hl => match us, hl with | [_, _], _ => rfl
  have F220 := fun_mk (st := s_Coder_end) l220 c220 k220
  have b220 := F220.binds (ps := ["self"]) fun _ _ _ _ _ _ us hl => match us, hl with | [_], _ => rfl
  have F224 := fun_mk (st := s_Coder_open_row) l224 c224 k224
  have b224 := F224.binds (ps := ["self", "lanes", "models", "octets"]) fun _ _ _ _ _ _ us hl => match us, hl with | [_, _, _, _], _ => rfl
  have F221 := fun_mk (st := s_Coder_get) l221 c221 k221
  have b221 := F221.binds (ps := ["self", "numbers"]) fun _ _ _ _ _ _ us hl => match us, hl with | [_, _], _ => rfl
  have F219 := fun_mk (st := s_Coder_done) l219 c219 k219
  have b219 := F219.binds (ps := ["self"]) fun _ _ _ _ _ _ us hl => match us, hl with | [_], _ => rfl
  have F222 := fun_mk (st := s_Coder_model) l222 c222 k222
  have b222 := F222.binds (ps := ["self", "k"]) fun _ _ _ _ _ _ us hl => match us, hl with | [_, _], _ => rfl
  have F223 := fun_mk (st := s_Coder_models_now) l223 c223 k223
  have b223 := F223.binds (ps := ["self"]) fun _ _ _ _ _ _ us hl => match us, hl with | [_], _ => rfl
  have F337 := fun_mk (st := s_told_list) l337 c337 k337
  have b337 := F337.binds (ps := ["numbers"]) fun _ _ _ _ _ _ us hl => match us, hl with | [_], _ => rfl
  have F334 := fun_mk (st := s_row_fits) l334 c334 k334
  have b334 := F334.binds (ps := ["lanes", "models"]) fun _ _ _ _ _ _ us hl => match us, hl with | [_, _], _ => rfl
  have F294 := fun_mk (st := s_Walk___init__) l294 c294 k294
  have b294 := F294.binds (ps := ["self", "numbers"]) fun _ _ _ _ _ _ us hl => match us, hl with | [_, _], _ => rfl
  have F295 := fun_mk (st := s_Walk_is_over) l295 c295 k295
  have b295 := F295.binds (ps := ["self"]) fun _ _ _ _ _ _ us hl => match us, hl with | [_], _ => rfl
  have F298 := fun_mk (st := s_Walk_take_number) l298 c298 k298
  have b298 := F298.binds (ps := ["self"]) fun _ _ _ _ _ _ us hl => match us, hl with | [_], _ => rfl
  have F299 := fun_mk (st := s_Walk_take_row) l299 c299 k299
  have b299 := F299.binds (ps := ["self"]) fun _ _ _ _ _ _ us hl => match us, hl with | [_], _ => rfl
  have F309 := fun_mk (st := s_answer_one) l309 c309 k309
  have b309 := F309.binds (ps := ["coder", "walk"]) fun _ _ _ _ _ _ us hl => match us, hl with | [_, _], _ => rfl
  have F310 := fun_mk (st := s_answers) l310 c310 k310
  have b310 := F310.binds (ps := ["calls"]) fun _ _ _ _ _ _ us hl => match us, hl with | [_], _ => rfl
  have T : ∃ T : Txt K mg, T.f_answers = fa ∧ HEq T.d_answers (PySem.W.fnOf "answers" "answers" (defArgs s_answers) (defBody s_answers) (defScope s_answers) .none kV310 dc310 pm310 an310 cd310 ct310) := ⟨{ n_Model_symbols := n257, n_Model_slowness := n255, n_Model_seen := n253, n_Model_begins := n250, C_Model := C248, cl_Model := ⟨pg248, hd248, po248, sa248⟩, mc_Model := PySem.W.mg_of X G a248, mk_Model := ⟨mk248, a249, i249, kc248⟩, n_Row_lanes := n281, n_Row_models := n282, n_Row_total := n284, n_Row_waiting := n285, C_Row := C277, cl_Row := ⟨pg277, hd277, po277, sa277⟩, mc_Row := PySem.W.mg_of X G a277, mk_Row := ⟨mk277, a278, i278, kc277⟩, n_Writer_row := n303, n_Writer_shares := n305, C_Writer := C301, cl_Writer := ⟨pg301, hd301, po301, sa301⟩, mc_Writer := PySem.W.mg_of X G a301, mk_Writer := ⟨mk301, a302, i302, kc301⟩, C_WordLacks := C300, mc_WordLacks := mc300, ow_WordLacks := own_cls mc300 x300, n_Reader_row := n272, n_Reader_states := n273, n_Reader_words := n275, n_Reader_words_read := n276, n_Reader_stopped := n274, C_Reader := C267, cl_Reader := ⟨pg267, hd267, po267, sa267⟩, mc_Reader := PySem.W.mg_of X G a267, mk_Reader := ⟨mk267, a268, i268, kc267⟩, n_Attempt_row := n208, n_Attempt_states := n210, n_Attempt_words := n213, n_Attempt_words_read := n214, n_Attempt_pieces := n204, C_Attempt := C201, cl_Attempt := ⟨pg201, hd201, po201, sa201⟩, mc_Attempt := PySem.W.mg_of X G a201, mk_Attempt := ⟨mk201, a202, i202, kc201⟩, n_Coder_writer := n227, n_Coder_reader := n226, C_Coder := C216, cl_Coder := ⟨pg216, hd216, po216, sa216⟩, mc_Coder := PySem.W.mg_of X G a216, mk_Coder := ⟨mk216, a217, i217, kc216⟩, n_Walk_numbers := n296, n_Walk_place := n297, C_Walk := C293, cl_Walk := ⟨pg293, hd293, po293, sa293⟩, mc_Walk := PySem.W.mg_of X G a293, mk_Walk := ⟨mk293, a294, i294, kc293⟩, f_kind_fits := f320, d_kind_fits := _, F_kind_fits := F320, b_kind_fits := b320, m_kind_fits := PySem.W.mg_of X G a320, f_number_class := f329, d_number_class := _, F_number_class := F329, b_number_class := b329, m_number_class := PySem.W.mg_of X G a329, f_value_fits := f338, d_value_fits := _, F_value_fits := F338, b_value_fits := b338, m_value_fits := PySem.W.mg_of X G a338, f_item_fits := f317, d_item_fits := _, F_item_fits := F317, b_item_fits := b317, m_item_fits := PySem.W.mg_of X G a317, f_items_fit := f319, d_items_fit := _, F_items_fit := F319, b_items_fit := b319, m_items_fit := PySem.W.mg_of X G a319, f_kinds_fit := f321, d_kinds_fit := _, F_kinds_fit := F321, b_kinds_fit := b321, m_kinds_fit := PySem.W.mg_of X G a321, f_bit_pieces := f311, d_bit_pieces := _, F_bit_pieces := F311, b_bit_pieces := b311, m_bit_pieces := PySem.W.mg_of X G a311, f_item_pieces := f318, d_item_pieces := _, F_item_pieces := F318, b_item_pieces := b318, m_item_pieces := PySem.W.mg_of X G a318, f_all_pieces := f308, d_all_pieces := _, F_all_pieces := F308, b_all_pieces := b308, m_all_pieces := PySem.W.mg_of X G a308, f_Model___init__ := f249, d_Model___init__ := _, F_Model___init__ := F249, b_Model___init__ := b249, f_Model_share := f254, d_Model_share := _, F_Model_share := F254, b_Model_share := b254, me_Model_share := ⟨a254, i254, k254⟩, f_Model_symbol_at := f256, d_Model_symbol_at := _, F_Model_symbol_at := F256, b_Model_symbol_at := b256, me_Model_symbol_at := ⟨a256, i256, k256⟩, f_Model_rate := f251, d_Model_rate := _, F_Model_rate := F251, b_Model_rate := b251, me_Model_rate := ⟨a251, i251, k251⟩, f_Model_see := f252, d_Model_see := _, F_Model_see := F252, b_Model_see := b252, me_Model_see := ⟨a252, i252, k252⟩, f_model_fits := f326, d_model_fits := _, F_model_fits := F326, b_model_fits := b326, m_model_fits := PySem.W.mg_of X G a326, f_models_fit := f327, d_models_fit := _, F_models_fit := F327, b_models_fit := b327, m_models_fit := PySem.W.mg_of X G a327, f_new_models := f328, d_new_models := _, F_new_models := F328, b_new_models := b328, m_new_models := PySem.W.mg_of X G a328, f_coded := f312, d_coded := _, F_coded := F312, b_coded := b312, m_coded := PySem.W.mg_of X G a312, f_taken_out := f336, d_taken_out := _, F_taken_out := F336, b_taken_out := b336, m_taken_out := PySem.W.mg_of X G a336, f_is_full := f316, d_is_full := _, F_is_full := F316, b_is_full := b316, m_is_full := PySem.W.mg_of X G a316, f_row_bytes := f333, d_row_bytes := _, F_row_bytes := F333, b_row_bytes := b333, m_row_bytes := PySem.W.mg_of X G a333, f_low_first := f324, d_low_first := _, F_low_first := F324, b_low_first := b324, m_low_first := PySem.W.mg_of X G a324, f_from_low_first := f315, d_from_low_first := _, F_from_low_first := F315, b_from_low_first := b315, m_from_low_first := PySem.W.mg_of X G a315, f_numbers_of_size := f330, d_numbers_of_size := _, F_numbers_of_size := F330, b_numbers_of_size := b330, m_numbers_of_size := PySem.W.mg_of X G a330, f_states_in := f335, d_states_in := _, F_states_in := F335, b_states_in := b335, m_states_in := PySem.W.mg_of X G a335, f_words_in := f339, d_words_in := _, F_words_in := F339, b_words_in := b339, m_words_in := PySem.W.mg_of X G a339, f_fault_place := f314, d_fault_place := _, F_fault_place := F314, b_fault_place := b314, m_fault_place := PySem.W.mg_of X G a314, f_Row___init__ := f278, d_Row___init__ := _, F_Row___init__ := F278, b_Row___init__ := b278, f_Row_piece_share := f283, d_Row_piece_share := _, F_Row_piece_share := F283, b_Row_piece_share := b283, me_Row_piece_share := ⟨a283, i283, k283⟩, f_Row_go_by := f280, d_Row_go_by := _, F_Row_go_by := F280, b_Row_go_by := b280, me_Row_go_by := ⟨a280, i280, k280⟩, f_Row_end_group := f279, d_Row_end_group := _, F_Row_end_group := F279, b_Row_end_group := b279, me_Row_end_group := ⟨a279, i279, k279⟩, f_Writer___init__ := f302, d_Writer___init__ := _, F_Writer___init__ := F302, b_Writer___init__ := b302, f_Writer_write := f306, d_Writer_write := _, F_Writer_write := F306, b_Writer_write := b306, me_Writer_write := ⟨a306, i306, k306⟩, f_Writer_row_coded := f304, d_Writer_row_coded := _, F_Writer_row_coded := F304, b_Writer_row_coded := b304, me_Writer_row_coded := ⟨a304, i304, k304⟩, f_Reader___init__ := f268, d_Reader___init__ := _, F_Reader___init__ := F268, b_Reader___init__ := b268, f_Reader_read := f270, d_Reader_read := _, F_Reader_read := F270, b_Reader_read := b270, me_Reader_read := ⟨a270, i270, k270⟩, f_Reader_read_whole := f271, d_Reader_read_whole := _, F_Reader_read_whole := F271, b_Reader_read_whole := b271, me_Reader_read_whole := ⟨a271, i271, k271⟩, f_Reader_is_at_end := f269, d_Reader_is_at_end := _, F_Reader_is_at_end := F269, b_Reader_is_at_end := b269, me_Reader_is_at_end := ⟨a269, i269, k269⟩, f_Attempt___init__ := f202, d_Attempt___init__ := _, F_Attempt___init__ := F202, b_Attempt___init__ := b202, f_Attempt_read_item := f206, d_Attempt_read_item := _, F_Attempt_read_item := F206, b_Attempt_read_item := b206, me_Attempt_read_item := ⟨a206, i206, k206⟩, f_Attempt_read_symbol := f207, d_Attempt_read_symbol := _, F_Attempt_read_symbol := F207, b_Attempt_read_symbol := b207, me_Attempt_read_symbol := ⟨a207, i207, k207⟩, f_Attempt_read_bits := f205, d_Attempt_read_bits := _, F_Attempt_read_bits := F205, b_Attempt_read_bits := b205, me_Attempt_read_bits := ⟨a205, i205, k205⟩, f_Attempt_lane := f203, d_Attempt_lane := _, F_Attempt_lane := F203, b_Attempt_lane := b203, me_Attempt_lane := ⟨a203, i203, k203⟩, f_Attempt_spot := f209, d_Attempt_spot := _, F_Attempt_spot := F209, b_Attempt_spot := b209, me_Attempt_spot := ⟨a209, i209, k209⟩, f_Attempt_take_out := f211, d_Attempt_take_out := _, F_Attempt_take_out := F211, b_Attempt_take_out := b211, me_Attempt_take_out := ⟨a211, i211, k211⟩, f_Attempt_take_word := f212, d_Attempt_take_word := _, F_Attempt_take_word := F212, b_Attempt_take_word := b212, me_Attempt_take_word := ⟨a212, i212, k212⟩, f_Coder___init__ := f217, d_Coder___init__ := _, F_Coder___init__ := F217, b_Coder___init__ := b217, f_Coder_begin := f218, d_Coder_begin := _, F_Coder_begin := F218, b_Coder_begin := b218, me_Coder_begin := ⟨a218, i218, k218⟩, f_Coder_put := f225, d_Coder_put := _, F_Coder_put := F225, b_Coder_put := b225, me_Coder_put := ⟨a225, i225, k225⟩, f_Coder_end := f220, d_Coder_end := _, F_Coder_end := F220, b_Coder_end := b220, me_Coder_end := ⟨a220, i220, k220⟩, f_Coder_open_row := f224, d_Coder_open_row := _, F_Coder_open_row := F224, b_Coder_open_row := b224, me_Coder_open_row := ⟨a224, i224, k224⟩, f_Coder_get := f221, d_Coder_get := _, F_Coder_get := F221, b_Coder_get := b221, me_Coder_get := ⟨a221, i221, k221⟩, f_Coder_done := f219, d_Coder_done := _, F_Coder_done := F219, b_Coder_done := b219, me_Coder_done := ⟨a219, i219, k219⟩, f_Coder_model := f222, d_Coder_model := _, F_Coder_model := F222, b_Coder_model := b222, me_Coder_model := ⟨a222, i222, k222⟩, f_Coder_models_now := f223, d_Coder_models_now := _, F_Coder_models_now := F223, b_Coder_models_now := b223, me_Coder_models_now := ⟨a223, i223, k223⟩, f_told_list := f337, d_told_list := _, F_told_list := F337, b_told_list := b337, m_told_list := PySem.W.mg_of X G a337, f_row_fits := f334, d_row_fits := _, F_row_fits := F334, b_row_fits := b334, m_row_fits := PySem.W.mg_of X G a334, f_Walk___init__ := f294, d_Walk___init__ := _, F_Walk___init__ := F294, b_Walk___init__ := b294, f_Walk_is_over := f295, d_Walk_is_over := _, F_Walk_is_over := F295, b_Walk_is_over := b295, me_Walk_is_over := ⟨a295, i295, k295⟩, f_Walk_take_number := f298, d_Walk_take_number := _, F_Walk_take_number := F298, b_Walk_take_number := b298, me_Walk_take_number := ⟨a298, i298, k298⟩, f_Walk_take_row := f299, d_Walk_take_row := _, F_Walk_take_row := F299, b_Walk_take_row := b299, me_Walk_take_row := ⟨a299, i299, k299⟩, f_answer_one := f309, d_answer_one := _, F_answer_one := F309, b_answer_one := b309, m_answer_one := PySem.W.mg_of X G a309, f_answers := fa, d_answers := _, F_answers := F310, b_answers := b310, m_answers := PySem.W.mg_of X G a310, t_SYMBOL := t287, g_SYMBOL := PySem.W.mg_of X G g287, t_PLAIN := t264, g_PLAIN := PySem.W.mg_of X G g264, t_NUMBER := t260, g_NUMBER := PySem.W.mg_of X G g260, t_PIECE_BITS := t262, g_PIECE_BITS := PySem.W.mg_of X G g262, t_MOST_BITS := t240, g_MOST_BITS := PySem.W.mg_of X G g240, t_MOST_NUMBER_SYMBOLS := t243, g_MOST_NUMBER_SYMBOLS := PySem.W.mg_of X G g243, t_PLACES := t263, g_PLACES := PySem.W.mg_of X G g263, t_MOST_SEEN := t245, g_MOST_SEEN := PySem.W.mg_of X G g245, t_MOST_MODELS := t242, g_MOST_MODELS := PySem.W.mg_of X G g242, t_FEWEST_SYMBOLS := t230, g_FEWEST_SYMBOLS := PySem.W.mg_of X G g230, t_MOST_SYMBOLS := t247, g_MOST_SYMBOLS := PySem.W.mg_of X G g247, t_LEAST_SLOWNESS := t236, g_LEAST_SLOWNESS := PySem.W.mg_of X G g236, t_MOST_SLOWNESS := t246, g_MOST_SLOWNESS := PySem.W.mg_of X G g246, t_FIRST_STATE := t231, g_FIRST_STATE := PySem.W.mg_of X G g231, t_LEAST_STATE := t237, g_LEAST_STATE := PySem.W.mg_of X G g237, t_WORD := t291, g_WORD := PySem.W.mg_of X G g291, t_FULL := t232, g_FULL := PySem.W.mg_of X G g232, t_STATE_BYTES := t286, g_STATE_BYTES := PySem.W.mg_of X G g286, t_WORD_BYTES := t292, g_WORD_BYTES := PySem.W.mg_of X G g292, t_BEGIN := t215, g_BEGIN := PySem.W.mg_of X G g215, t_PUT := t265, g_PUT := PySem.W.mg_of X G g265, t_END := t229, g_END := PySem.W.mg_of X G g229, t_OPEN := t261, g_OPEN := PySem.W.mg_of X G g261, t_GET := t233, g_GET := PySem.W.mg_of X G g233, t_DONE := t228, g_DONE := PySem.W.mg_of X G g228, t_MODEL := t239, g_MODEL := PySem.W.mg_of X G g239, t_MISSHAPEN := t238, g_MISSHAPEN := PySem.W.mg_of X G g238, t_NOT_NOW := t259, g_NOT_NOW := PySem.W.mg_of X G g259, t_TOO_MANY := t288, g_TOO_MANY := PySem.W.mg_of X G g288, t_UNREADABLE := t289, g_UNREADABLE := PySem.W.mg_of X G g289, t_NOT_AT_END := t258, g_NOT_AT_END := PySem.W.mg_of X G g258, t_AT_END := t200, g_AT_END := PySem.W.mg_of X G g200, t_PUTTING := t266, g_PUTTING := PySem.W.mg_of X G g266, t_IDLE := t234, g_IDLE := PySem.W.mg_of X G g234, a_LANES := a235, g_LANES := PySem.W.mg_of X G g235, q_LANES := fun H => .inr ⟨_, _, _, l235, rfl, rfl, (by show 4 ≤ sizeLine; decide), .cons ⟨_, rfl⟩ (.cons ⟨_, rfl⟩ (.cons ⟨_, rfl⟩ (.cons ⟨_, rfl⟩ (.nil))))⟩, t_MOST_PIECES := t244, g_MOST_PIECES := PySem.W.mg_of X G g244, t_MOST_BYTES := t241, g_MOST_BYTES := PySem.W.mg_of X G g241, bl_all := PySem.W.mg_none_of X G bl307, bl_enumerate := PySem.W.mg_none_of X G bl313, bl_len := PySem.W.mg_none_of X G bl322, bl_list := PySem.W.mg_none_of X G bl323, bl_min := PySem.W.mg_none_of X G bl325, bl_range := PySem.W.mg_none_of X G bl331, bl_reversed := PySem.W.mg_none_of X G bl332, bl_zip := PySem.W.mg_none_of X G bl340 }, rfl, HEq.rfl⟩
  obtain ⟨T, e1, e2⟩ := T
  have e2 := eq_of_heq e2
  refine ⟨PySem.W.fnOf "answers" "answers" (defArgs s_answers) (defBody s_answers) (defScope s_answers) .none kV310 dc310 pm310 an310 cd310 ct310, fun s us hu => match us, hu with | [_], _ => .of_eq rfl, fun base _ _ => ?_⟩
  have q := ok_answers (P := P) (w := w) (base := base) T
  rw [e1, e2] at q
  exact q
end FB
/- names taken: no twins of the head's own definitions are laid (they would make the compiled file too large) -/
namespace PySem.W.Fast
theorem tw10005946910680994685:True:=⟨⟩
theorem tw10037779174960418718:True:=⟨⟩
theorem tw10046005060901900324:True:=⟨⟩
theorem tw10055360931684128044:True:=⟨⟩
theorem tw10087328524714622312:True:=⟨⟩
theorem tw10087459125810071977:True:=⟨⟩
theorem tw1018484892105577900:True:=⟨⟩
theorem tw10197796133670932566:True:=⟨⟩
theorem tw10205009559760915502:True:=⟨⟩
theorem tw1024863447200807819:True:=⟨⟩
theorem tw10320796534522268805:True:=⟨⟩
theorem tw1033112473892365156:True:=⟨⟩
theorem tw10387401007575802139:True:=⟨⟩
theorem tw10392647646494777767:True:=⟨⟩
theorem tw10467102192036780305:True:=⟨⟩
theorem tw10538920103374316346:True:=⟨⟩
theorem tw10545688973418046526:True:=⟨⟩
theorem tw10579809557725467809:True:=⟨⟩
theorem tw10590270199235739629:True:=⟨⟩
theorem tw10612126298645251795:True:=⟨⟩
theorem tw10618411688030223728:True:=⟨⟩
theorem tw10670736786265929377:True:=⟨⟩
theorem tw10703644991963289672:True:=⟨⟩
theorem tw10747401981189209200:True:=⟨⟩
theorem tw10771687200862187608:True:=⟨⟩
theorem tw10781667041377955169:True:=⟨⟩
theorem tw10782721964909005816:True:=⟨⟩
theorem tw10835493034778526774:True:=⟨⟩
theorem tw10835926560307467237:True:=⟨⟩
theorem tw10846065570357938899:True:=⟨⟩
theorem tw10854779258690830944:True:=⟨⟩
theorem tw10879458586393861184:True:=⟨⟩
theorem tw10912075023725156637:True:=⟨⟩
theorem tw10943549295779083556:True:=⟨⟩
theorem tw10957148158334284566:True:=⟨⟩
theorem tw11006348785386527876:True:=⟨⟩
theorem tw11010057976820033364:True:=⟨⟩
theorem tw11023915656732180698:True:=⟨⟩
theorem tw11071379194719293197:True:=⟨⟩
theorem tw11084192600176870102:True:=⟨⟩
theorem tw11133782966811033308:True:=⟨⟩
theorem tw11139337267723991221:True:=⟨⟩
theorem tw11149003081832624013:True:=⟨⟩
theorem tw11194813608782152046:True:=⟨⟩
theorem tw11200525638968237315:True:=⟨⟩
theorem tw11212991293086786787:True:=⟨⟩
theorem tw11225838267736762832:True:=⟨⟩
theorem tw11231848861313980461:True:=⟨⟩
theorem tw11241178400919080339:True:=⟨⟩
theorem tw11307102658075019266:True:=⟨⟩
theorem tw11334816040377990142:True:=⟨⟩
theorem tw11390626899815111386:True:=⟨⟩
theorem tw11423998887427505052:True:=⟨⟩
theorem tw11453299632955816298:True:=⟨⟩
theorem tw11476691913182608687:True:=⟨⟩
theorem tw11502438961857862900:True:=⟨⟩
theorem tw11534985734843537894:True:=⟨⟩
theorem tw11538584058451663162:True:=⟨⟩
theorem tw11574447973677349075:True:=⟨⟩
theorem tw11580563685933615996:True:=⟨⟩
theorem tw11630340014183492653:True:=⟨⟩
theorem tw11718424608117133394:True:=⟨⟩
theorem tw11719021581989873394:True:=⟨⟩
theorem tw11723294058584952382:True:=⟨⟩
theorem tw1175212151768715681:True:=⟨⟩
theorem tw1176367374159509436:True:=⟨⟩
theorem tw1176812275437249297:True:=⟨⟩
theorem tw11783058474366179956:True:=⟨⟩
theorem tw11837113190709677116:True:=⟨⟩
theorem tw118704982855764129:True:=⟨⟩
theorem tw11871545699214828560:True:=⟨⟩
theorem tw1188251524673572093:True:=⟨⟩
theorem tw11927976814301173352:True:=⟨⟩
theorem tw11945985032099808717:True:=⟨⟩
theorem tw11956601395260500682:True:=⟨⟩
theorem tw11965501265555573368:True:=⟨⟩
theorem tw11975855200357134632:True:=⟨⟩
theorem tw11980586627945317912:True:=⟨⟩
theorem tw12019030118696645415:True:=⟨⟩
theorem tw12025795439050285949:True:=⟨⟩
theorem tw12091068669478332246:True:=⟨⟩
theorem tw12157186749994773853:True:=⟨⟩
theorem tw12158284919981363900:True:=⟨⟩
theorem tw12189955003999753682:True:=⟨⟩
theorem tw1219877673358350580:True:=⟨⟩
theorem tw12277111721803609039:True:=⟨⟩
theorem tw12307847420904766653:True:=⟨⟩
theorem tw12322710454378856251:True:=⟨⟩
theorem tw12327038552306786146:True:=⟨⟩
theorem tw1234737270060979873:True:=⟨⟩
theorem tw12404882494374731759:True:=⟨⟩
theorem tw12424251039405017509:True:=⟨⟩
theorem tw12429284479653014123:True:=⟨⟩
theorem tw12431265629577975531:True:=⟨⟩
theorem tw12442289586319995006:True:=⟨⟩
theorem tw12474357118010782909:True:=⟨⟩
theorem tw12517883565892135498:True:=⟨⟩
theorem tw12527865658826390367:True:=⟨⟩
theorem tw1254832905999869953:True:=⟨⟩
theorem tw12577107345306082219:True:=⟨⟩
theorem tw12589416934015210534:True:=⟨⟩
theorem tw12612764645856525040:True:=⟨⟩
theorem tw12633250120244896159:True:=⟨⟩
theorem tw1266245093380700777:True:=⟨⟩
theorem tw12692696866859933168:True:=⟨⟩
theorem tw12733462668533143291:True:=⟨⟩
theorem tw12735014083536051352:True:=⟨⟩
theorem tw12735292650169310328:True:=⟨⟩
theorem tw12756094482670748068:True:=⟨⟩
theorem tw12761173541538633980:True:=⟨⟩
theorem tw12772520391552978668:True:=⟨⟩
theorem tw12799310884965795934:True:=⟨⟩
theorem tw12856291844160282903:True:=⟨⟩
theorem tw12892280014633367331:True:=⟨⟩
theorem tw12897954226581621022:True:=⟨⟩
theorem tw12945234081457251873:True:=⟨⟩
theorem tw12981101614000660457:True:=⟨⟩
theorem tw13081507429525688312:True:=⟨⟩
theorem tw13096232377273313616:True:=⟨⟩
theorem tw13104501839108101960:True:=⟨⟩
theorem tw13108704360591425136:True:=⟨⟩
theorem tw13111993901764699715:True:=⟨⟩
theorem tw13126444198601788585:True:=⟨⟩
theorem tw13136880562556690435:True:=⟨⟩
theorem tw13199595996836848803:True:=⟨⟩
theorem tw13202305362019424194:True:=⟨⟩
theorem tw13232348082120039506:True:=⟨⟩
theorem tw13240225399183264543:True:=⟨⟩
theorem tw13285998284773986586:True:=⟨⟩
theorem tw1334778873555820620:True:=⟨⟩
theorem tw13351219660724128690:True:=⟨⟩
theorem tw13364468365040186734:True:=⟨⟩
theorem tw13392240690710849068:True:=⟨⟩
theorem tw13431491859200255221:True:=⟨⟩
theorem tw13509962957492640223:True:=⟨⟩
theorem tw13547506381913479708:True:=⟨⟩
theorem tw13548547280012662159:True:=⟨⟩
theorem tw13567598138216404203:True:=⟨⟩
theorem tw13571085235964158225:True:=⟨⟩
theorem tw13589831496213583631:True:=⟨⟩
theorem tw13605474362932523954:True:=⟨⟩
theorem tw13665876958345236774:True:=⟨⟩
theorem tw13677201835412113108:True:=⟨⟩
theorem tw13727175619227720991:True:=⟨⟩
theorem tw13746612514118689785:True:=⟨⟩
theorem tw13749722639196685869:True:=⟨⟩
theorem tw13803342781864568060:True:=⟨⟩
theorem tw13815683886486322963:True:=⟨⟩
theorem tw13836076878268421877:True:=⟨⟩
theorem tw13882899759846955885:True:=⟨⟩
theorem tw1390370146927529529:True:=⟨⟩
theorem tw13905300744341635482:True:=⟨⟩
theorem tw1391684644118004621:True:=⟨⟩
theorem tw13969306604004224694:True:=⟨⟩
theorem tw14010251988229133713:True:=⟨⟩
theorem tw14012033538472420170:True:=⟨⟩
theorem tw14019101285671660248:True:=⟨⟩
theorem tw14029298061499488486:True:=⟨⟩
theorem tw14035172247143506231:True:=⟨⟩
theorem tw14057885969169093273:True:=⟨⟩
theorem tw14073931439683980056:True:=⟨⟩
theorem tw14080172394901213453:True:=⟨⟩
theorem tw14104679138089899666:True:=⟨⟩
theorem tw14211539810075404485:True:=⟨⟩
theorem tw14225250439452680790:True:=⟨⟩
theorem tw14314052175445948148:True:=⟨⟩
theorem tw14358056679712556293:True:=⟨⟩
theorem tw14439277101856883615:True:=⟨⟩
theorem tw14557603662256093078:True:=⟨⟩
theorem tw14567666242913862541:True:=⟨⟩
theorem tw14584789929669880813:True:=⟨⟩
theorem tw14614617329663914457:True:=⟨⟩
theorem tw14627336753531468565:True:=⟨⟩
theorem tw14636141057807269317:True:=⟨⟩
theorem tw14669414358311189007:True:=⟨⟩
theorem tw14706174105089736152:True:=⟨⟩
theorem tw14706350075634890042:True:=⟨⟩
theorem tw14766198551277584925:True:=⟨⟩
theorem tw14827486350474347580:True:=⟨⟩
theorem tw14872349969465893256:True:=⟨⟩
theorem tw14907133412337411196:True:=⟨⟩
theorem tw14943495517795561033:True:=⟨⟩
theorem tw14958305889307804554:True:=⟨⟩
theorem tw15023273885995667858:True:=⟨⟩
theorem tw15060452612369222147:True:=⟨⟩
theorem tw15089031915302055632:True:=⟨⟩
theorem tw15099519420924097252:True:=⟨⟩
theorem tw15107157201868838902:True:=⟨⟩
theorem tw15164323476283970859:True:=⟨⟩
theorem tw153068732046004682:True:=⟨⟩
theorem tw15335235004198980251:True:=⟨⟩
theorem tw15385614770861723807:True:=⟨⟩
theorem tw15403293339985045515:True:=⟨⟩
theorem tw15404453384355170248:True:=⟨⟩
theorem tw15405886343656989174:True:=⟨⟩
theorem tw15414123091745950303:True:=⟨⟩
theorem tw15484984741991056789:True:=⟨⟩
theorem tw1551082088841081072:True:=⟨⟩
theorem tw15572967573286355844:True:=⟨⟩
theorem tw1557981214844818924:True:=⟨⟩
theorem tw15588553326710883771:True:=⟨⟩
theorem tw15622965373491886240:True:=⟨⟩
theorem tw1563158596360414326:True:=⟨⟩
theorem tw15660742017797302817:True:=⟨⟩
theorem tw15721224031316339844:True:=⟨⟩
theorem tw15745058727634574817:True:=⟨⟩
theorem tw15784639245650349384:True:=⟨⟩
theorem tw1581483456755082375:True:=⟨⟩
theorem tw15816741670078671760:True:=⟨⟩
theorem tw15894525764181399233:True:=⟨⟩
theorem tw15915184921829612550:True:=⟨⟩
theorem tw15916497362720629796:True:=⟨⟩
theorem tw15918632332886598595:True:=⟨⟩
theorem tw1593455748923455249:True:=⟨⟩
theorem tw15937433831963088906:True:=⟨⟩
theorem tw15950607169226139565:True:=⟨⟩
theorem tw15956949458746465704:True:=⟨⟩
theorem tw15989547176612778637:True:=⟨⟩
theorem tw16036924223726644475:True:=⟨⟩
theorem tw16101962859318830693:True:=⟨⟩
theorem tw16118858045650322610:True:=⟨⟩
theorem tw1614166061330550490:True:=⟨⟩
theorem tw16150237509168379073:True:=⟨⟩
theorem tw1621363111751577189:True:=⟨⟩
theorem tw16239635448170310325:True:=⟨⟩
theorem tw16305142605302804155:True:=⟨⟩
theorem tw16360553465505560404:True:=⟨⟩
theorem tw16371695919160023770:True:=⟨⟩
theorem tw16374988997264862938:True:=⟨⟩
theorem tw16390241162138907945:True:=⟨⟩
theorem tw16440728263823964490:True:=⟨⟩
theorem tw165017361160366937:True:=⟨⟩
theorem tw1650546089510018623:True:=⟨⟩
theorem tw16591690771391853785:True:=⟨⟩
theorem tw16598847945136592218:True:=⟨⟩
theorem tw16620456397584961694:True:=⟨⟩
theorem tw16651927673521886474:True:=⟨⟩
theorem tw16661039438876339966:True:=⟨⟩
theorem tw16696680607030134832:True:=⟨⟩
theorem tw16754388241908522820:True:=⟨⟩
theorem tw16896179554469658356:True:=⟨⟩
theorem tw16904247572493415240:True:=⟨⟩
theorem tw16964171380473724484:True:=⟨⟩
theorem tw16971186176939849844:True:=⟨⟩
theorem tw16978285287179986341:True:=⟨⟩
theorem tw16986178111231269719:True:=⟨⟩
theorem tw16990493546653145186:True:=⟨⟩
theorem tw17042328653668471351:True:=⟨⟩
theorem tw17044079916319254804:True:=⟨⟩
theorem tw17051596964837773070:True:=⟨⟩
theorem tw17054554274213206415:True:=⟨⟩
theorem tw1709690577475499684:True:=⟨⟩
theorem tw17099524102102950416:True:=⟨⟩
theorem tw1718182155976201460:True:=⟨⟩
theorem tw17227067650643290706:True:=⟨⟩
theorem tw17318371550226191264:True:=⟨⟩
theorem tw17347630004809504621:True:=⟨⟩
theorem tw17417787766765639942:True:=⟨⟩
theorem tw17419557287930649111:True:=⟨⟩
theorem tw17459600306218822511:True:=⟨⟩
theorem tw17468774362573501754:True:=⟨⟩
theorem tw17511932395204826237:True:=⟨⟩
theorem tw17517401054455837504:True:=⟨⟩
theorem tw17524501216862946941:True:=⟨⟩
theorem tw17545826294075014372:True:=⟨⟩
theorem tw17591918956277012941:True:=⟨⟩
theorem tw17602440891916835667:True:=⟨⟩
theorem tw17619523890849375386:True:=⟨⟩
theorem tw17675356339545193979:True:=⟨⟩
theorem tw17689488844897164608:True:=⟨⟩
theorem tw17729619231757844159:True:=⟨⟩
theorem tw17787087339066893230:True:=⟨⟩
theorem tw17839339437840186770:True:=⟨⟩
theorem tw17884408638675433306:True:=⟨⟩
theorem tw1795919131787454948:True:=⟨⟩
theorem tw18001999478190480777:True:=⟨⟩
theorem tw18038804796065387845:True:=⟨⟩
theorem tw18048163100084462826:True:=⟨⟩
theorem tw18081341588433819915:True:=⟨⟩
theorem tw18102544919430403707:True:=⟨⟩
theorem tw18168171908705686146:True:=⟨⟩
theorem tw1818241728377002593:True:=⟨⟩
theorem tw18204299061960897611:True:=⟨⟩
theorem tw18213277712406994437:True:=⟨⟩
theorem tw182183749364880690:True:=⟨⟩
theorem tw18283727421995771279:True:=⟨⟩
theorem tw18297316541177454165:True:=⟨⟩
theorem tw18306915267854199429:True:=⟨⟩
theorem tw18366137099131896115:True:=⟨⟩
theorem tw18394024349238016986:True:=⟨⟩
theorem tw18415540373493347873:True:=⟨⟩
theorem tw18415571454666654107:True:=⟨⟩
theorem tw18417362502144389043:True:=⟨⟩
theorem tw1874849439503603835:True:=⟨⟩
theorem tw1911434940565774921:True:=⟨⟩
theorem tw1928142638416615606:True:=⟨⟩
theorem tw1963459512564697669:True:=⟨⟩
theorem tw204974142336019340:True:=⟨⟩
theorem tw2050099840114582135:True:=⟨⟩
theorem tw2074554841839697045:True:=⟨⟩
theorem tw2131718740009390651:True:=⟨⟩
theorem tw2169357748938358487:True:=⟨⟩
theorem tw2170844196652322397:True:=⟨⟩
theorem tw2189933775551429623:True:=⟨⟩
theorem tw2245837091456282422:True:=⟨⟩
theorem tw2302142025524728269:True:=⟨⟩
theorem tw2311133048351344021:True:=⟨⟩
theorem tw2411091501863610041:True:=⟨⟩
theorem tw253386142345680985:True:=⟨⟩
theorem tw2569913541546876757:True:=⟨⟩
theorem tw2577389056844724936:True:=⟨⟩
theorem tw2613452371593619069:True:=⟨⟩
theorem tw2655765030265581091:True:=⟨⟩
theorem tw2832504660041691874:True:=⟨⟩
theorem tw2868108897023101021:True:=⟨⟩
theorem tw287910867728086645:True:=⟨⟩
theorem tw2884224350611307406:True:=⟨⟩
theorem tw289995967228010101:True:=⟨⟩
theorem tw2956451276490118725:True:=⟨⟩
theorem tw3035092366002024960:True:=⟨⟩
theorem tw3062675755007194884:True:=⟨⟩
theorem tw3095663554418257638:True:=⟨⟩
theorem tw3136718039550549183:True:=⟨⟩
theorem tw3152917440082640011:True:=⟨⟩
theorem tw3173128690478717471:True:=⟨⟩
theorem tw3176625953244116522:True:=⟨⟩
theorem tw3252144261223165086:True:=⟨⟩
theorem tw3260073591346147433:True:=⟨⟩
theorem tw3298188457590319222:True:=⟨⟩
theorem tw3332606993197574077:True:=⟨⟩
theorem tw33421023804747986:True:=⟨⟩
theorem tw337775474479472860:True:=⟨⟩
theorem tw3384404916324260933:True:=⟨⟩
theorem tw3388759247172236917:True:=⟨⟩
theorem tw3411056861800743293:True:=⟨⟩
theorem tw3462778950000789718:True:=⟨⟩
theorem tw3468957189954099756:True:=⟨⟩
theorem tw3512893226437308137:True:=⟨⟩
theorem tw3559280831278207911:True:=⟨⟩
theorem tw3601618030027368205:True:=⟨⟩
theorem tw3625274057657458651:True:=⟨⟩
theorem tw3756689518422308918:True:=⟨⟩
theorem tw3762233608665257008:True:=⟨⟩
theorem tw3789913629195633751:True:=⟨⟩
theorem tw3902446225590717875:True:=⟨⟩
theorem tw3902837872983650922:True:=⟨⟩
theorem tw3995543838458560760:True:=⟨⟩
theorem tw4000041857809087487:True:=⟨⟩
theorem tw4163538713233876901:True:=⟨⟩
theorem tw417906907014516109:True:=⟨⟩
theorem tw4180240357781899080:True:=⟨⟩
theorem tw4194961402560556973:True:=⟨⟩
theorem tw4223318682432892363:True:=⟨⟩
theorem tw4225143314824240708:True:=⟨⟩
theorem tw4264959309130785341:True:=⟨⟩
theorem tw4296038582518211116:True:=⟨⟩
theorem tw4395122503377136526:True:=⟨⟩
theorem tw4398430645850158101:True:=⟨⟩
theorem tw4401871906771659864:True:=⟨⟩
theorem tw4438256472859888127:True:=⟨⟩
theorem tw4463196645840566299:True:=⟨⟩
theorem tw4471119252369675579:True:=⟨⟩
theorem tw44840509948726606:True:=⟨⟩
theorem tw4511256375051604716:True:=⟨⟩
theorem tw4536968608377451846:True:=⟨⟩
theorem tw4543664519780050114:True:=⟨⟩
theorem tw4638115786374953912:True:=⟨⟩
theorem tw4646434484468310921:True:=⟨⟩
theorem tw4896727378209235633:True:=⟨⟩
theorem tw4957326089200926107:True:=⟨⟩
theorem tw4989034051944661182:True:=⟨⟩
theorem tw5015367057392010564:True:=⟨⟩
theorem tw5017288980943125919:True:=⟨⟩
theorem tw5045162163967517397:True:=⟨⟩
theorem tw5090171336634729196:True:=⟨⟩
theorem tw5100062397104229280:True:=⟨⟩
theorem tw515470397882361637:True:=⟨⟩
theorem tw5162646265645789043:True:=⟨⟩
theorem tw5179772498751914396:True:=⟨⟩
theorem tw5200673923074174481:True:=⟨⟩
theorem tw521121930831629323:True:=⟨⟩
theorem tw5218455259034344561:True:=⟨⟩
theorem tw5254669606088458495:True:=⟨⟩
theorem tw5280918576068407866:True:=⟨⟩
theorem tw5475027559306159995:True:=⟨⟩
theorem tw5490690230926184562:True:=⟨⟩
theorem tw554400249541519302:True:=⟨⟩
theorem tw5564854030605445808:True:=⟨⟩
theorem tw5591461583627949880:True:=⟨⟩
theorem tw5614072700983265288:True:=⟨⟩
theorem tw5635255642211012980:True:=⟨⟩
theorem tw5636849065157148789:True:=⟨⟩
theorem tw5661496396594468825:True:=⟨⟩
theorem tw5670681176486468317:True:=⟨⟩
theorem tw577464755578546318:True:=⟨⟩
theorem tw5858243363346339191:True:=⟨⟩
theorem tw5927345108261100641:True:=⟨⟩
theorem tw5944723826474778629:True:=⟨⟩
theorem tw5997453648958600642:True:=⟨⟩
theorem tw6043136917964101413:True:=⟨⟩
theorem tw6060035064907406279:True:=⟨⟩
theorem tw609875909362459214:True:=⟨⟩
theorem tw6110195969509416568:True:=⟨⟩
theorem tw6152540954898172999:True:=⟨⟩
theorem tw6201644100713551058:True:=⟨⟩
theorem tw6237531929956811512:True:=⟨⟩
theorem tw6369255075255896412:True:=⟨⟩
theorem tw6373283583557165589:True:=⟨⟩
theorem tw6397289423135378455:True:=⟨⟩
theorem tw6440059697402393569:True:=⟨⟩
theorem tw6455961628767806967:True:=⟨⟩
theorem tw6558945997603154472:True:=⟨⟩
theorem tw6627300995569274742:True:=⟨⟩
theorem tw6667316542603242316:True:=⟨⟩
theorem tw6684443937327762945:True:=⟨⟩
theorem tw6685357372020826562:True:=⟨⟩
theorem tw6713336764202253715:True:=⟨⟩
theorem tw6740424160328172781:True:=⟨⟩
theorem tw6768615521613479084:True:=⟨⟩
theorem tw6778454469569024559:True:=⟨⟩
theorem tw6815380429609761511:True:=⟨⟩
theorem tw6876023626438324054:True:=⟨⟩
theorem tw6876948161122431685:True:=⟨⟩
theorem tw6935436153647244741:True:=⟨⟩
theorem tw6946302879027465377:True:=⟨⟩
theorem tw6965453505357391178:True:=⟨⟩
theorem tw6981631296993167730:True:=⟨⟩
theorem tw7030536091630089957:True:=⟨⟩
theorem tw7036167885051829752:True:=⟨⟩
theorem tw7106286064176600850:True:=⟨⟩
theorem tw7107570781108790140:True:=⟨⟩
theorem tw7143866023543793637:True:=⟨⟩
theorem tw7207447739874319881:True:=⟨⟩
theorem tw7218693553819911703:True:=⟨⟩
theorem tw7246609805086559217:True:=⟨⟩
theorem tw7250772741541263949:True:=⟨⟩
theorem tw7263429901487226001:True:=⟨⟩
theorem tw7298666292261523500:True:=⟨⟩
theorem tw7299369080913246507:True:=⟨⟩
theorem tw7301859166278954955:True:=⟨⟩
theorem tw736283429493231659:True:=⟨⟩
theorem tw7366089206982153576:True:=⟨⟩
theorem tw737483040043160180:True:=⟨⟩
theorem tw7403442114356121190:True:=⟨⟩
theorem tw7465566198696179811:True:=⟨⟩
theorem tw7487594752869333375:True:=⟨⟩
theorem tw7506673013869872702:True:=⟨⟩
theorem tw7507712360949397502:True:=⟨⟩
theorem tw7513710593456696699:True:=⟨⟩
theorem tw7572901221546857548:True:=⟨⟩
theorem tw7573355117900100411:True:=⟨⟩
theorem tw7710685845571448212:True:=⟨⟩
theorem tw7793407181413981296:True:=⟨⟩
theorem tw7829347560145480631:True:=⟨⟩
theorem tw7831403159900718380:True:=⟨⟩
theorem tw8008468546067902977:True:=⟨⟩
theorem tw8096265761300852758:True:=⟨⟩
theorem tw8104149896992135434:True:=⟨⟩
theorem tw8116244825259294682:True:=⟨⟩
theorem tw8218779910813035359:True:=⟨⟩
theorem tw8224159128224270420:True:=⟨⟩
theorem tw8230269136932437993:True:=⟨⟩
theorem tw8297041302992803828:True:=⟨⟩
theorem tw83035179446911257:True:=⟨⟩
theorem tw8305594975723704761:True:=⟨⟩
theorem tw8307853650416235413:True:=⟨⟩
theorem tw8340529534934647469:True:=⟨⟩
theorem tw8362515342576896383:True:=⟨⟩
theorem tw8414858758704379456:True:=⟨⟩
theorem tw8440404512858018067:True:=⟨⟩
theorem tw8461640295816732171:True:=⟨⟩
theorem tw8482294525718958473:True:=⟨⟩
theorem tw8482691564395870392:True:=⟨⟩
theorem tw8537215602098959075:True:=⟨⟩
theorem tw8551168598613517480:True:=⟨⟩
theorem tw8565641369098730058:True:=⟨⟩
theorem tw8575486674287649114:True:=⟨⟩
theorem tw8587593346696891592:True:=⟨⟩
theorem tw8641779978450640165:True:=⟨⟩
theorem tw8644759617204963558:True:=⟨⟩
theorem tw8657996127638044426:True:=⟨⟩
theorem tw8685248478476006035:True:=⟨⟩
theorem tw8718263645187333955:True:=⟨⟩
theorem tw8742513004365023201:True:=⟨⟩
theorem tw876878749048167212:True:=⟨⟩
theorem tw8800026294535464038:True:=⟨⟩
theorem tw8807616137093690939:True:=⟨⟩
theorem tw8845080233690925173:True:=⟨⟩
theorem tw8902782287841662526:True:=⟨⟩
theorem tw891169593377152328:True:=⟨⟩
theorem tw8963912328151390689:True:=⟨⟩
theorem tw8972124160254398668:True:=⟨⟩
theorem tw8979484878384100710:True:=⟨⟩
theorem tw8995259907390487032:True:=⟨⟩
theorem tw907548436107835467:True:=⟨⟩
theorem tw9092279056884634840:True:=⟨⟩
theorem tw9156305599365670349:True:=⟨⟩
theorem tw9170895673820283910:True:=⟨⟩
theorem tw9182044849197640280:True:=⟨⟩
theorem tw935431345131032132:True:=⟨⟩
theorem tw9395428930255817385:True:=⟨⟩
theorem tw9406709278716780341:True:=⟨⟩
theorem tw9437268293609288162:True:=⟨⟩
theorem tw9452110787232257334:True:=⟨⟩
theorem tw9456150244093997886:True:=⟨⟩
theorem tw9540373283200385775:True:=⟨⟩
theorem tw9568537470793952492:True:=⟨⟩
theorem tw957837125791270698:True:=⟨⟩
theorem tw9586028118165604170:True:=⟨⟩
theorem tw9605818037561254573:True:=⟨⟩
theorem tw9608230899033817736:True:=⟨⟩
theorem tw9689439331696921350:True:=⟨⟩
theorem tw9695773309899308895:True:=⟨⟩
theorem tw9721076865143716456:True:=⟨⟩
theorem tw9742388747900752906:True:=⟨⟩
theorem tw9754188353355966406:True:=⟨⟩
theorem tw9785612320562822860:True:=⟨⟩
theorem tw9843275736345235736:True:=⟨⟩
theorem tw9855499072307953601:True:=⟨⟩
theorem tw9857069669672392134:True:=⟨⟩
theorem tw9871391048654701479:True:=⟨⟩
theorem tw9876167938885322352:True:=⟨⟩
theorem tw9885587003743663957:True:=⟨⟩
theorem tw9912231527550857260:True:=⟨⟩
theorem tw9914360149105964574:True:=⟨⟩
theorem tw993587809305950632:True:=⟨⟩
theorem tw9939601249638125149:True:=⟨⟩
theorem tw9969657151779419149:True:=⟨⟩
theorem tw9983908869782492252:True:=⟨⟩
end PySem.W.Fast
open PySem PySem.W PyProof.Rows
set_option maxRecDepth 100000 in
set_option maxHeartbeats 0 in
theorem PySem.Challenge.cw_foretoldbits_s01_answers_holds : PySem.Challenge.rw_foretoldbits_s01_answers.Holds := by
  w_on; k_headS; (case hw => exact ⟨[.list [.int 2]], by decide +kernel, by decide +kernel⟩)
  k_fillS
  refine L2.walk_specK (r := PySem.Challenge.rw_foretoldbits_s01_answers) (k := 10) (CX := L2.CX0) (ps := ["calls"]) (sp := fun K => FB.sp_answers (K := K)) (by decide +kernel) rfl rfl ⟨rfl, by decide, by decide⟩ (fun w h Y => PySem.W.kIn_of Y) ?F ?S (fun _ _ _ _ z => z)
  case F =>
    intro w mg fa h Y KX G hmg
    refine' FB.all_mk KX G hmg ?a248 ?pg248 ?hd248 ?po248 ?sa248 ?mk248 ?kc248 ?n257 ?n255 ?n253 ?n250 ?a277 ?pg277 ?hd277 ?po277 ?sa277 ?mk277 ?kc277 ?n281 ?n282 ?n284 ?n285 ?a301 ?pg301 ?hd301 ?po301 ?sa301 ?mk301 ?kc301 ?n303 ?n305 ?a300 ?x300 ?a267 ?pg267 ?hd267 ?po267 ?sa267 ?mk267 ?kc267 ?n272 ?n273 ?n275 ?n276 ?n274 ?a201 ?pg201 ?hd201 ?po201 ?sa201 ?mk201 ?kc201 ?n208 ?n210 ?n213 ?n214 ?n204 ?a216 ?pg216 ?hd216 ?po216 ?sa216 ?mk216 ?kc216 ?n227 ?n226 ?a293 ?pg293 ?hd293 ?po293 ?sa293 ?mk293 ?kc293 ?n296 ?n297 ?a320 ?l320 ?c320 ?k320 ?a329 ?l329 ?c329 ?k329 ?a338 ?l338 ?c338 ?k338 ?a317 ?l317 ?c317 ?k317 ?a319 ?l319 ?c319 ?k319 ?a321 ?l321 ?c321 ?k321 ?a311 ?l311 ?c311 ?k311 ?a318 ?l318 ?c318 ?k318 ?a308 ?l308 ?c308 ?k308 ?a249 ?i249 ?l249 ?c249 ?k249 ?a254 ?i254 ?l254 ?c254 ?k254 ?a256 ?i256 ?l256 ?c256 ?k256 ?a251 ?i251 ?l251 ?c251 ?k251 ?a252 ?i252 ?l252 ?c252 ?k252 ?a326 ?l326 ?c326 ?k326 ?a327 ?l327 ?c327 ?k327 ?a328 ?l328 ?c328 ?k328 ?a312 ?l312 ?c312 ?k312 ?a336 ?l336 ?c336 ?k336 ?a316 ?l316 ?c316 ?k316 ?a333 ?l333 ?c333 ?k333 ?a324 ?l324 ?c324 ?k324 ?a315 ?l315 ?c315 ?k315 ?a330 ?l330 ?c330 ?k330 ?a335 ?l335 ?c335 ?k335 ?a339 ?l339 ?c339 ?k339 ?a314 ?l314 ?c314 ?k314 ?a278 ?i278 ?l278 ?c278 ?k278 ?a283 ?i283 ?l283 ?c283 ?k283 ?a280 ?i280 ?l280 ?c280 ?k280 ?a279 ?i279 ?l279 ?c279 ?k279 ?a302 ?i302 ?l302 ?c302 ?k302 ?a306 ?i306 ?l306 ?c306 ?k306 ?a304 ?i304 ?l304 ?c304 ?k304 ?a268 ?i268 ?l268 ?c268 ?k268 ?a270 ?i270 ?l270 ?c270 ?k270 ?a271 ?i271 ?l271 ?c271 ?k271 ?a269 ?i269 ?l269 ?c269 ?k269 ?a202 ?i202 ?l202 ?c202 ?k202 ?a206 ?i206 ?l206 ?c206 ?k206 ?a207 ?i207 ?l207 ?c207 ?k207 ?a205 ?i205 ?l205 ?c205 ?k205 ?a203 ?i203 ?l203 ?c203 ?k203 ?a209 ?i209 ?l209 ?c209 ?k209 ?a211 ?i211 ?l211 ?c211 ?k211 ?a212 ?i212 ?l212 ?c212 ?k212 ?a217 ?i217 ?l217 ?c217 ?k217 ?a218 ?i218 ?l218 ?c218 ?k218 ?a225 ?i225 ?l225 ?c225 ?k225 ?a220 ?i220 ?l220 ?c220 ?k220 ?a224 ?i224 ?l224 ?c224 ?k224 ?a221 ?i221 ?l221 ?c221 ?k221 ?a219 ?i219 ?l219 ?c219 ?k219 ?a222 ?i222 ?l222 ?c222 ?k222 ?a223 ?i223 ?l223 ?c223 ?k223 ?a337 ?l337 ?c337 ?k337 ?a334 ?l334 ?c334 ?k334 ?a294 ?i294 ?l294 ?c294 ?k294 ?a295 ?i295 ?l295 ?c295 ?k295 ?a298 ?i298 ?l298 ?c298 ?k298 ?a299 ?i299 ?l299 ?c299 ?k299 ?a309 ?l309 ?c309 ?k309 ?a310 ?l310 ?c310 ?k310 ?g287 ?g264 ?g260 ?g262 ?g240 ?g243 ?g263 ?g245 ?g242 ?g230 ?g247 ?g236 ?g246 ?g231 ?g237 ?g291 ?g232 ?g286 ?g292 ?g215 ?g265 ?g229 ?g261 ?g233 ?g228 ?g239 ?g238 ?g259 ?g288 ?g289 ?g258 ?g200 ?g266 ?g234 ?g235 ?l235 ?g244 ?g241 ?bl307 ?bl313 ?bl322 ?bl323 ?bl325 ?bl331 ?bl332 ?bl340
    (case a248 => k_is)
    (case pg248 => k_is)
    (case hd248 => k_is)
    (case po248 => k_is)
    (case sa248 => k_is)
    (case mk248 => k_is)
    (case kc248 => k_is)
    (case n257 => k_is)
    (case n255 => k_is)
    (case n253 => k_is)
    (case n250 => k_is)
    (case a277 => k_is)
    (case pg277 => k_is)
    (case hd277 => k_is)
    (case po277 => k_is)
    (case sa277 => k_is)
    (case mk277 => k_is)
    (case kc277 => k_is)
    (case n281 => k_is)
    (case n282 => k_is)
    (case n284 => k_is)
    (case n285 => k_is)
    (case a301 => k_is)
    (case pg301 => k_is)
    (case hd301 => k_is)
    (case po301 => k_is)
    (case sa301 => k_is)
    (case mk301 => k_is)
    (case kc301 => k_is)
    (case n303 => k_is)
    (case n305 => k_is)
    (case a300 => k_is)
    (case x300 => k_exc)
    (case a267 => k_is)
    (case pg267 => k_is)
    (case hd267 => k_is)
    (case po267 => k_is)
    (case sa267 => k_is)
    (case mk267 => k_is)
    (case kc267 => k_is)
    (case n272 => k_is)
    (case n273 => k_is)
    (case n275 => k_is)
    (case n276 => k_is)
    (case n274 => k_is)
    (case a201 => k_is)
    (case pg201 => k_is)
    (case hd201 => k_is)
    (case po201 => k_is)
    (case sa201 => k_is)
    (case mk201 => k_is)
    (case kc201 => k_is)
    (case n208 => k_is)
    (case n210 => k_is)
    (case n213 => k_is)
    (case n214 => k_is)
    (case n204 => k_is)
    (case a216 => k_is)
    (case pg216 => k_is)
    (case hd216 => k_is)
    (case po216 => k_is)
    (case sa216 => k_is)
    (case mk216 => k_is)
    (case kc216 => k_is)
    (case n227 => k_is)
    (case n226 => k_is)
    (case a293 => k_is)
    (case pg293 => k_is)
    (case hd293 => k_is)
    (case po293 => k_is)
    (case sa293 => k_is)
    (case mk293 => k_is)
    (case kc293 => k_is)
    (case n296 => k_is)
    (case n297 => k_is)
    (case a320 => k_is)
    (case l320 => k_is)
    (case c320 => k_is)
    (case k320 => k_is)
    (case a329 => k_is)
    (case l329 => k_is)
    (case c329 => k_is)
    (case k329 => k_is)
    (case a338 => k_is)
    (case l338 => k_is)
    (case c338 => k_is)
    (case k338 => k_is)
    (case a317 => k_is)
    (case l317 => k_is)
    (case c317 => k_is)
    (case k317 => k_is)
    (case a319 => k_is)
    (case l319 => k_is)
    (case c319 => k_is)
    (case k319 => k_is)
    (case a321 => k_is)
    (case l321 => k_is)
    (case c321 => k_is)
    (case k321 => k_is)
    (case a311 => k_is)
    (case l311 => k_is)
    (case c311 => k_is)
    (case k311 => k_is)
    (case a318 => k_is)
    (case l318 => k_is)
    (case c318 => k_is)
    (case k318 => k_is)
    (case a308 => k_is)
    (case l308 => k_is)
    (case c308 => k_is)
    (case k308 => k_is)
    (case a249 => k_is)
    (case i249 => k_is)
    (case l249 => k_is)
    (case c249 => k_is)
    (case k249 => k_is)
    (case a254 => k_is)
    (case i254 => k_is)
    (case l254 => k_is)
    (case c254 => k_is)
    (case k254 => k_is)
    (case a256 => k_is)
    (case i256 => k_is)
    (case l256 => k_is)
    (case c256 => k_is)
    (case k256 => k_is)
    (case a251 => k_is)
    (case i251 => k_is)
    (case l251 => k_is)
    (case c251 => k_is)
    (case k251 => k_is)
    (case a252 => k_is)
    (case i252 => k_is)
    (case l252 => k_is)
    (case c252 => k_is)
    (case k252 => k_is)
    (case a326 => k_is)
    (case l326 => k_is)
    (case c326 => k_is)
    (case k326 => k_is)
    (case a327 => k_is)
    (case l327 => k_is)
    (case c327 => k_is)
    (case k327 => k_is)
    (case a328 => k_is)
    (case l328 => k_is)
    (case c328 => k_is)
    (case k328 => k_is)
    (case a312 => k_is)
    (case l312 => k_is)
    (case c312 => k_is)
    (case k312 => k_is)
    (case a336 => k_is)
    (case l336 => k_is)
    (case c336 => k_is)
    (case k336 => k_is)
    (case a316 => k_is)
    (case l316 => k_is)
    (case c316 => k_is)
    (case k316 => k_is)
    (case a333 => k_is)
    (case l333 => k_is)
    (case c333 => k_is)
    (case k333 => k_is)
    (case a324 => k_is)
    (case l324 => k_is)
    (case c324 => k_is)
    (case k324 => k_is)
    (case a315 => k_is)
    (case l315 => k_is)
    (case c315 => k_is)
    (case k315 => k_is)
    (case a330 => k_is)
    (case l330 => k_is)
    (case c330 => k_is)
    (case k330 => k_is)
    (case a335 => k_is)
    (case l335 => k_is)
    (case c335 => k_is)
    (case k335 => k_is)
    (case a339 => k_is)
    (case l339 => k_is)
    (case c339 => k_is)
    (case k339 => k_is)
    (case a314 => k_is)
    (case l314 => k_is)
    (case c314 => k_is)
    (case k314 => k_is)
    (case a278 => k_is)
    (case i278 => k_is)
    (case l278 => k_is)
    (case c278 => k_is)
    (case k278 => k_is)
    (case a283 => k_is)
    (case i283 => k_is)
    (case l283 => k_is)
    (case c283 => k_is)
    (case k283 => k_is)
    (case a280 => k_is)
    (case i280 => k_is)
    (case l280 => k_is)
    (case c280 => k_is)
    (case k280 => k_is)
    (case a279 => k_is)
    (case i279 => k_is)
    (case l279 => k_is)
    (case c279 => k_is)
    (case k279 => k_is)
    (case a302 => k_is)
    (case i302 => k_is)
    (case l302 => k_is)
    (case c302 => k_is)
    (case k302 => k_is)
    (case a306 => k_is)
    (case i306 => k_is)
    (case l306 => k_is)
    (case c306 => k_is)
    (case k306 => k_is)
    (case a304 => k_is)
    (case i304 => k_is)
    (case l304 => k_is)
    (case c304 => k_is)
    (case k304 => k_is)
    (case a268 => k_is)
    (case i268 => k_is)
    (case l268 => k_is)
    (case c268 => k_is)
    (case k268 => k_is)
    (case a270 => k_is)
    (case i270 => k_is)
    (case l270 => k_is)
    (case c270 => k_is)
    (case k270 => k_is)
    (case a271 => k_is)
    (case i271 => k_is)
    (case l271 => k_is)
    (case c271 => k_is)
    (case k271 => k_is)
    (case a269 => k_is)
    (case i269 => k_is)
    (case l269 => k_is)
    (case c269 => k_is)
    (case k269 => k_is)
    (case a202 => k_is)
    (case i202 => k_is)
    (case l202 => k_is)
    (case c202 => k_is)
    (case k202 => k_is)
    (case a206 => k_is)
    (case i206 => k_is)
    (case l206 => k_is)
    (case c206 => k_is)
    (case k206 => k_is)
    (case a207 => k_is)
    (case i207 => k_is)
    (case l207 => k_is)
    (case c207 => k_is)
    (case k207 => k_is)
    (case a205 => k_is)
    (case i205 => k_is)
    (case l205 => k_is)
    (case c205 => k_is)
    (case k205 => k_is)
    (case a203 => k_is)
    (case i203 => k_is)
    (case l203 => k_is)
    (case c203 => k_is)
    (case k203 => k_is)
    (case a209 => k_is)
    (case i209 => k_is)
    (case l209 => k_is)
    (case c209 => k_is)
    (case k209 => k_is)
    (case a211 => k_is)
    (case i211 => k_is)
    (case l211 => k_is)
    (case c211 => k_is)
    (case k211 => k_is)
    (case a212 => k_is)
    (case i212 => k_is)
    (case l212 => k_is)
    (case c212 => k_is)
    (case k212 => k_is)
    (case a217 => k_is)
    (case i217 => k_is)
    (case l217 => k_is)
    (case c217 => k_is)
    (case k217 => k_is)
    (case a218 => k_is)
    (case i218 => k_is)
    (case l218 => k_is)
    (case c218 => k_is)
    (case k218 => k_is)
    (case a225 => k_is)
    (case i225 => k_is)
    (case l225 => k_is)
    (case c225 => k_is)
    (case k225 => k_is)
    (case a220 => k_is)
    (case i220 => k_is)
    (case l220 => k_is)
    (case c220 => k_is)
    (case k220 => k_is)
    (case a224 => k_is)
    (case i224 => k_is)
    (case l224 => k_is)
    (case c224 => k_is)
    (case k224 => k_is)
    (case a221 => k_is)
    (case i221 => k_is)
    (case l221 => k_is)
    (case c221 => k_is)
    (case k221 => k_is)
    (case a219 => k_is)
    (case i219 => k_is)
    (case l219 => k_is)
    (case c219 => k_is)
    (case k219 => k_is)
    (case a222 => k_is)
    (case i222 => k_is)
    (case l222 => k_is)
    (case c222 => k_is)
    (case k222 => k_is)
    (case a223 => k_is)
    (case i223 => k_is)
    (case l223 => k_is)
    (case c223 => k_is)
    (case k223 => k_is)
    (case a337 => k_is)
    (case l337 => k_is)
    (case c337 => k_is)
    (case k337 => k_is)
    (case a334 => k_is)
    (case l334 => k_is)
    (case c334 => k_is)
    (case k334 => k_is)
    (case a294 => k_is)
    (case i294 => k_is)
    (case l294 => k_is)
    (case c294 => k_is)
    (case k294 => k_is)
    (case a295 => k_is)
    (case i295 => k_is)
    (case l295 => k_is)
    (case c295 => k_is)
    (case k295 => k_is)
    (case a298 => k_is)
    (case i298 => k_is)
    (case l298 => k_is)
    (case c298 => k_is)
    (case k298 => k_is)
    (case a299 => k_is)
    (case i299 => k_is)
    (case l299 => k_is)
    (case c299 => k_is)
    (case k299 => k_is)
    (case a309 => k_is)
    (case l309 => k_is)
    (case c309 => k_is)
    (case k309 => k_is)
    (case a310 => k_is)
    (case l310 => k_is)
    (case c310 => k_is)
    (case k310 => k_is)
    (case g287 => k_is)
    (case g264 => k_is)
    (case g260 => k_is)
    (case g262 => k_is)
    (case g240 => k_is)
    (case g243 => k_is)
    (case g263 => k_is)
    (case g245 => k_is)
    (case g242 => k_is)
    (case g230 => k_is)
    (case g247 => k_is)
    (case g236 => k_is)
    (case g246 => k_is)
    (case g231 => k_is)
    (case g237 => k_is)
    (case g291 => k_is)
    (case g232 => k_is)
    (case g286 => k_is)
    (case g292 => k_is)
    (case g215 => k_is)
    (case g265 => k_is)
    (case g229 => k_is)
    (case g261 => k_is)
    (case g233 => k_is)
    (case g228 => k_is)
    (case g239 => k_is)
    (case g238 => k_is)
    (case g259 => k_is)
    (case g288 => k_is)
    (case g289 => k_is)
    (case g258 => k_is)
    (case g200 => k_is)
    (case g266 => k_is)
    (case g234 => k_is)
    (case g235 => k_is)
    (case l235 => k_is)
    (case g244 => k_is)
    (case g241 => k_is)
    (case bl307 => k_is)
    (case bl313 => k_is)
    (case bl322 => k_is)
    (case bl323 => k_is)
    (case bl325 => k_is)
    (case bl331 => k_is)
    (case bl332 => k_is)
    (case bl340 => k_is)
  case S =>
    intro K H xs a hO hwi hask hx
    cases hx with
    | cons h1 h2 =>
      cases h2
      cases h1 with
      | lst hs ha =>
        have e := L2.ints_dw a.1 _ ha
        subst e
        have q : ((Codec.inLen 0 19000 a.1 && a.1.all (Codec.inInt 0 9007199254740991)) && true) = true := hwi
        rw [Bool.and_eq_true, Bool.and_eq_true, List.all_eq_true] at q
        obtain ⟨b1, b2⟩ := FB.ints_back (l := a.1) fun x hx => FB.inInt_nn (q.1.2 x hx)
        refine ⟨_, a.1.map Int.toNat, rfl, by rw [b2]; exact hs, by rw [b1]; exact hask, fun H' p hp => ?_⟩
        rw [b1] at hp
        exact .lst (L2.SqL.of hp) (L2.dw_ints _)
