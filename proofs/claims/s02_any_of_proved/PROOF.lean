import PyProof.Rows.All
import Wide.All
import OpenK.AllK
import Wide.FinOn
import PyProof.EqAt
import PyProof.EqKinds
import PyProof.TupleCall
import KE.BitLaws
import Open.SpecLaws
import KE.OsHead
import KE.OsGo
import PyWqaqcp
import KE.KDictSum
import PySem.Challenge.RW_chancehalldesk_s02_any_of
set_option Elab.async false
set_option linter.all false
set_option maxRecDepth 100000
namespace L2
open PySem PySem.Spec PyProof.Rows
abbrev Key := Sum Int Str
def keyIs : Key → Value → Bool
  | .inl k, v => Value.isInt k v
  | .inr x, v => Value.isStrOf x v
def keyH (w : World) : Key → Int
  | .inl k => hashInt k
  | .inr x => hashStr w x
theorem keyIs_shape : ∀ {k : Key} {v : Value}, keyIs k v = true → (∃ i t, k = Sum.inl i ∧ v = Value.int i t) ∨ (∃ x t, k = Sum.inr x ∧ v = Value.str x t)
  | .inl i, v, h => by
    obtain ⟨t, e⟩ := Value.isInt_shape (k := i) (v := v) h
    exact .inl ⟨i, t, rfl, e⟩
  | .inr x, v, h => by
    obtain ⟨t, e⟩ := Value.isStrOf_shape (x := x) (v := v) h
    exact .inr ⟨x, t, rfl, e⟩
theorem keyIs_int (i : Int) (t : Tok) : keyIs (.inl i) (.int i t) = true := by simp [keyIs, Value.isInt]
theorem keyIs_str (x : Str) (t : Tok) : keyIs (.inr x) (.str x t) = true := by simp [keyIs, Value.isStrOf]
theorem key_ll (a b : Int) : decide ((Sum.inl a : Key) = Sum.inl b) = (a == b) := by
  by_cases e : a = b
  · subst e; simp
  · have h : ¬ (Sum.inl a : Key) = Sum.inl b := fun q => e (Sum.inl.inj q)
    rw [decide_eq_false h]
    exact (beq_eq_false_iff_ne.mpr e).symm
theorem key_rr (a b : Str) : decide ((Sum.inr a : Key) = Sum.inr b) = decide (a = b) := by
  by_cases e : a = b
  · subst e; simp
  · have h : ¬ (Sum.inr a : Key) = Sum.inr b := fun q => e (Sum.inr.inj q)
    rw [decide_eq_false h, decide_eq_false e]
theorem key_lr (a : Int) (b : Str) : decide ((Sum.inl a : Key) = Sum.inr b) = false := decide_eq_false (fun q => nomatch q)
theorem key_rl (a : Str) (b : Int) : decide ((Sum.inr a : Key) = Sum.inl b) = false := decide_eq_false (fun q => nomatch q)
def mixKind (prog : Program) (w : World) : PySem.KeyKind prog w Key where
  is := keyIs
  hash := keyH w
  inj := fun v a b ha hb => by
    rcases keyIs_shape ha with ⟨i, t, rfl, rfl⟩ | ⟨x, t, rfl, rfl⟩
    · rcases keyIs_shape hb with ⟨j, u, rfl, e⟩ | ⟨y, u, rfl, e⟩
      · injection e with e1 _; rw [e1]
      · exact nomatch e
    · rcases keyIs_shape hb with ⟨j, u, rfl, e⟩ | ⟨y, u, rfl, e⟩
      · exact nomatch e
      · injection e with e1 _; rw [e1]
  byValue := fun k v h => by
    rcases keyIs_shape h with ⟨i, t, rfl, rfl⟩ | ⟨x, t, rfl, rfl⟩ <;> rfl
  pyHash := fun hv h => by
    rcases keyIs_shape hv with ⟨i, t, rfl, rfl⟩ | ⟨x, t, rfl, rfl⟩
    · exact wpAny_pyHash_int h
    · exact wpAny_pyHash_str h
  eqBool := fun hu hv h => by
    rcases keyIs_shape hu with ⟨i, t, rfl, rfl⟩ | ⟨x, t, rfl, rfl⟩
    · rcases keyIs_shape hv with ⟨j, u, rfl, rfl⟩ | ⟨y, u, rfl, rfl⟩
      · rw [key_ll] at h; exact wpAny_eqBool_int h
      · rw [key_lr] at h; exact SeqAt.EqAt.int_str i t y u _ _ _ _ h
    · rcases keyIs_shape hv with ⟨j, u, rfl, rfl⟩ | ⟨y, u, rfl, rfl⟩
      · rw [key_rl] at h; exact SeqAt.EqAt.str_int x t j u _ _ _ _ h
      · rw [key_rr] at h; exact wpAny_eqBool_str h
  «strs» := fun k x t v h => by
    rcases keyIs_shape h with ⟨i, u, rfl, e⟩ | ⟨y, u, rfl, e⟩
    · exact nomatch e
    · injection e with e1 _
      subst e1
      cases v <;> rfl
theorem mixKind_int (prog : Program) (w : World) (i : Int) (t : Tok) : (mixKind prog w).is (.inl i) (.int i t) = true := keyIs_int i t
theorem mixKind_str (prog : Program) (w : World) (x : Str) (t : Tok) : (mixKind prog w).is (.inr x) (.str x t) = true := keyIs_str x t
end L2
namespace L2
open PySem PySem.Spec PyProof.Rows
inductive V where
  | non | bl (b : Bool) | int (i : Int) | str (x : Str) | byt (b : Array UInt8) | flt (b : UInt64) | ref (a : Addr) | ty (n : String)
  deriving DecidableEq
def RelV : V → Value → Prop
  | .non, u => u = Value.none
  | .bl b, u => u = Value.bool b
  | .int i, u => ∃ t, u = Value.int i t
  | .str x, u => ∃ t, u = Value.str x t
  | .byt b, u => ∃ t, u = Value.bytes b t
  | .flt b, u => ∃ t, u = Value.float b t
  | .ref a, u => u = Value.ref a
  | .ty n, u => u = Value.type n
abbrev Vals : List V → List Value → Prop := Paired RelV
theorem Vals.length {xs : List V} {us : List Value} (r : Vals xs us) : xs.length = us.length := Paired.length r
theorem Vals.get : ∀ {xs : List V} {us : List Value} {i : Nat} {x : V}, Vals xs us → xs[i]? = some x → ∃ u, us[i]? = some u ∧ RelV x u
  | _, _, _, _, .nil, e => by simp at e
  | _, _, 0, _, .cons r _, e => by simp at e; subst e; exact ⟨_, rfl, r⟩
  | _, _, i + 1, x, .cons _ t, e => by
    obtain ⟨u, h1, h2⟩ := Vals.get (i := i) (x := x) t (by simpa using e)
    exact ⟨u, by simpa using h1, h2⟩
theorem Vals.append : ∀ {xs ys : List V} {us ws : List Value}, Vals xs us → Vals ys ws → Vals (xs ++ ys) (us ++ ws)
  | _, _, _, _, .nil, s => s
  | _, _, _, _, .cons r t, s => .cons r (Vals.append t s)
theorem Vals.take : ∀ {xs : List V} {us : List Value} (n : Nat), Vals xs us → Vals (xs.take n) (us.take n)
  | _, _, 0, _ => .nil
  | _, _, _ + 1, .nil => .nil
  | _, _, n + 1, .cons r t => .cons r (Vals.take n t)
theorem Vals.drop : ∀ {xs : List V} {us : List Value} (n : Nat), Vals xs us → Vals (xs.drop n) (us.drop n)
  | _, _, 0, r => r
  | _, _, _ + 1, .nil => .nil
  | _, _, n + 1, .cons _ t => Vals.drop n t
def RelO : Option V → Option Value → Prop
  | some v, some u => RelV v u
  | none, none => True
  | _, _ => False
def KV {κ : Type} : List (κ × V) → List (κ × Value) → Prop := Paired fun (p : κ × V) (q : κ × Value) => p.1 = q.1 ∧ RelV p.2 q.2
def kV : Key → V
  | .inl i => .int i
  | .inr x => .str x
inductive HO where
  /-- a list -/
  | lst (xs : List V)
  /-- a tuple (never changes) -/
  | tup (xs : List V)
  /-- a dict whose keys are ints and texts; one whose keys are tuples of ints and texts (the empty one is both) -/
  | dK (kvs : List (Key × V)) | dT (kvs : List (List Key × V))
  /-- a set of ints: its members, its size -/
  | set (S : Int → Bool) (n : Nat)
  /-- an instance of the class at C, its dict at dx, its attributes -/
  | ins (C dx : Addr) (fs : List (Str × V))
  /-- the dict of the instance at x -/
  | own (x : Addr)
  /-- the dict of an exception -/
  | xd (fs : List (Str × V))
  /-- a bound method, f of x -/
  | met (f x : Addr)
  /-- a range object lo, lo + 1, .. below hi -/
  | rng (lo hi : Int)
  /-- a thing that is known to the object (the script; a dict while a loop walks it): read, never written while it is so -/
  | frz (o : Obj) (u : HO)
  /-- a code object's table -/
  | tbl (ps : Array Value)
  /-- any other thing, by what is true of its one object (a def of one's own: SetO a S n := HO.ext fun h => ..) -/
  | ext (φ : Heap → Prop)
abbrev Hp := Addr → Option HO
def upd (H : Hp) (a : Addr) (o : HO) : Hp := fun b => if b = a then some o else H b
theorem upd_same {H : Hp} {a : Addr} {o : HO} : upd H a o a = some o := by unfold upd; rw [if_pos rfl]
theorem upd_ne {H : Hp} {a b : Addr} {o : HO} (h : b ≠ a) : upd H a o b = H b := by unfold upd; rw [if_neg h]
theorem ne_of {H : Hp} {a b : Addr} {o u : HO} (h : H a = some o) (h' : H b = some u) (d : o ≠ u) : a ≠ b := by
  intro e; subst e; rw [h] at h'; exact d (Option.some.inj h')
theorem ne_of_none {H : Hp} {a b : Addr} {o : HO} (h : H a = some o) (h' : H b = none) : a ≠ b := by
  intro e; subst e; rw [h] at h'; cases h'
section
variable (P : Program) (w : World)
def ObjOk (H : Hp) (h : Heap) (a : Addr) : HO → Prop
  | .lst xs => xs.length ≤ sizeLine ∧ ∃ (its : List Value) (n : Nat), Vals xs its ∧ h.get? a = some { cls := .type "list", data := .seq its.toArray n }
  | .tup xs => xs.length ≤ sizeLine ∧ ∃ its : List Value, Vals xs its ∧ IsTup h a its.toArray
  | .dK kvs => kvs.length ≤ sizeLine ∧ (a == sysModules) = false ∧ ∃ vs, KV kvs vs ∧ h.DictOf (mixKind P w) a vs
  | .dT kvs => kvs.length ≤ sizeLine ∧ (a == sysModules) = false ∧ ∃ xs : List (List Key × Addr × Value),
      Paired (fun (p : List Key × V) (q : List Key × Addr × Value) => p.1 = q.1 ∧ H q.2.1 = some (.tup (p.1.map kV)) ∧ RelV p.2 q.2.2) kvs xs ∧
      ∃ o es ep, h.get? a = some o ∧ o.ExactDict ∧ o.data = .dict es ep ∧ es.toList = xs.map (entryOfKey (tupleKind (mixKind P w))) ∧ (xs.map (·.1)).Nodup
  | .set S n => h.SetOf (intKind P w) a S n
  | .ins C dx fs => H dx = some (.own a) ∧ fs.length ≤ 1000 ∧ dx ≠ a ∧ h.get? a = some (PySem.W.instObj C dx) ∧
      ∃ mA, h.Ns1 dx mA ∧ (∀ f, RelO (fs.lookup f) (mA f)) ∧ PySem.Within mA (fs.map (·.1))
  | .own _ => ∃ o, h.get? a = some o
  | .xd fs => ∃ mA, h.Ns1 a mA ∧ ∀ f, RelO (fs.lookup f) (mA f)
  | .rng lo hi => ∃ t u v, h.get? a = some { cls := .type "range", data := .fields #[.int lo t, .int hi u, .int 1 v] }
  | .frz o u => h.get? a = some o ∧ ObjOk H h a u
  | .tbl ps => h.get? a = some { cls := .none, data := .fields ps }
  | .met f x => h.get? a = some (PySem.W.methodObj (.ref f) (.ref x))
  | .ext φ => φ h ∧ (∃ o, h.get? a = some o) ∧ ∀ h1 h2 : Heap, φ h1 → (∀ o, h1.get? a = some o → h2.get? a = some o) → φ h2
def HOk (H : Hp) (h : Heap) : Prop := ∀ a o, H a = some o → ObjOk P w H h a o
end
section
variable {P : Program} {w : World} {H H' : Hp} {h h' : Heap} {a : Addr} {o : HO}
theorem ObjOk.lt (x : ObjOk P w H h a o) : a < h.objs.size := by
  cases o with
  | lst xs => obtain ⟨_, _, _, _, e⟩ := x; exact Heap.lt_size e
  | tup xs => obtain ⟨_, _, _, p⟩ := x; exact p.lt
  | dK kvs => obtain ⟨_, _, _, _, o, _, _, e, _⟩ := x; exact Heap.lt_size e
  | dT kvs => obtain ⟨_, _, _, _, o, _, _, e, _⟩ := x; exact Heap.lt_size e
  | set S n => obtain ⟨o, _, _, _, e, _⟩ := x; exact Heap.lt_size e
  | ins C dx fs => obtain ⟨_, _, _, e, _⟩ := x; exact Heap.lt_size e
  | own y => obtain ⟨_, e⟩ := x; exact Heap.lt_size e
  | xd fs => obtain ⟨_, ⟨_, _, _, e, _⟩, _⟩ := x; exact Heap.lt_size e
  | rng lo hi => obtain ⟨_, _, _, e⟩ := x; exact Heap.lt_size e
  | frz ob u => obtain ⟨e, _⟩ := x; exact Heap.lt_size e
  | tbl ps => exact Heap.lt_size (show h.get? a = some _ from x)
  | met f y => exact Heap.lt_size (show h.get? a = some _ from x)
  | ext φ => obtain ⟨_, ⟨_, e⟩, _⟩ := x; exact Heap.lt_size e
theorem Paired.mapP {α β : Type} {F G : α → β → Prop} : ∀ {l₁ : List α} {l₂ : List β}, Paired F l₁ l₂ → (∀ a b, F a b → G a b) → Paired G l₁ l₂
  | _, _, .nil, _ => .nil
  | _, _, .cons r t, f => .cons (f _ _ r) (Paired.mapP t f)
theorem ObjOk.stay (x : ObjOk P w H h a o) (k : ∀ b u, (b = a ∨ H b = some (.own a)) → h.get? b = some u → h'.get? b = some u)
    (ho : ∀ b, H b = some (.own a) → H' b = some (.own a)) (ht : ∀ b xs, H b = some (.tup xs) → H' b = some (.tup xs)) : ObjOk P w H' h' a o := by
  induction o with
  | lst xs => obtain ⟨z, its, n, r, e⟩ := x; exact ⟨z, its, n, r, k _ _ (.inl rfl) e⟩
  | tup xs => obtain ⟨z, its, r, ob, e, c⟩ := x; exact ⟨z, its, r, ob, k _ _ (.inl rfl) e, c⟩
  | dK kvs => obtain ⟨z, y, vs, r, ob, es, ep, e, c⟩ := x; exact ⟨z, y, vs, r, ob, es, ep, k _ _ (.inl rfl) e, c⟩
  | dT kvs =>
    obtain ⟨z, y, xs, r, ob, es, ep, e, c⟩ := x
    exact ⟨z, y, xs, Paired.mapP r fun p q z => ⟨z.1, ht _ _ z.2.1, z.2.2⟩, ob, es, ep, k _ _ (.inl rfl) e, c⟩
  | set S n => obtain ⟨ob, es, ep, t, e, c⟩ := x; exact ⟨ob, es, ep, t, k _ _ (.inl rfl) e, c⟩
  | ins C dx fs =>
    obtain ⟨d, z, ne, e, mA, ⟨od, es, ep, e2, c⟩, r⟩ := x
    exact ⟨ho _ d, z, ne, k _ _ (.inl rfl) e, mA, ⟨od, es, ep, k _ _ (.inr d) e2, c⟩, r⟩
  | own y => obtain ⟨ob, e⟩ := x; exact ⟨ob, k _ _ (.inl rfl) e⟩
  | xd fs => obtain ⟨mA, ⟨od, es, ep, e, c⟩, r⟩ := x; exact ⟨mA, ⟨od, es, ep, k _ _ (.inl rfl) e, c⟩, r⟩
  | rng lo hi => obtain ⟨t, u, v, e⟩ := x; exact ⟨t, u, v, k _ _ (.inl rfl) e⟩
  | frz ob u ih => obtain ⟨e, q⟩ := x; exact ⟨k _ _ (.inl rfl) e, ih q⟩
  | tbl ps =>
    have e : h.get? a = some { cls := .none, data := .fields ps } := x
    show h'.get? a = some { cls := .none, data := .fields ps }
    exact k a _ (.inl rfl) e
  | met f y =>
    have e : h.get? a = some (PySem.W.methodObj (.ref f) (.ref y)) := x
    show h'.get? a = some (PySem.W.methodObj (.ref f) (.ref y))
    exact k a _ (.inl rfl) e
  | ext φ => obtain ⟨p, ⟨o, e⟩, st⟩ := x; exact ⟨st _ _ p fun o q => k _ _ (.inl rfl) q, ⟨o, k _ _ (.inl rfl) e⟩, st⟩
theorem HOk.lt (x : HOk P w H h) (e : H a = some o) : a < h.objs.size := (x a o e).lt
theorem HOk.fresh (x : HOk P w H h) (e : h.objs.size ≤ a) : H a = none := by
  cases q : H a with
  | none => rfl
  | some u => exact absurd (Nat.lt_of_lt_of_le (x.lt q) e) (Nat.lt_irrefl _)
theorem HOk.kept (x : HOk P w H h) (k : ∀ b u, h.get? b = some u → h'.get? b = some u) : HOk P w H h' := fun a o e =>
  (x a o e).stay (fun b u _ q => k b u q) (fun _ q => q) fun _ _ q => q
theorem HOk.laid (x : HOk P w H h) (k : ∀ b u, h.get? b = some u → h'.get? b = some u) (hp : h.objs.size ≤ a) (new : ObjOk P w (upd H a o) h' a o) : HOk P w (upd H a o) h' := fun b u e => by
  have hn := x.fresh hp
  by_cases hb : b = a
  · subst hb; rw [upd_same] at e; cases e; exact new
  · rw [upd_ne hb] at e
    exact (x b u e).stay (fun c v _ q => k c v q) (fun c q => by rw [upd_ne (ne_of_none q hn)]; exact q) fun c xs q => by rw [upd_ne (ne_of_none q hn)]; exact q
end
def Rd (H : Hp) (a : Addr) (u : HO) : Prop := H a = some u ∨ ∃ o, H a = some (.frz o u)
theorem Rd.ok {P : Program} {w : World} {H : Hp} {h : Heap} {a : Addr} {u : HO} (r : Rd H a u) (x : HOk P w H h) : ObjOk P w H h a u := by
  rcases r with r | ⟨o, r⟩
  · exact x a u r
  · obtain ⟨_, q⟩ := x a _ r
    exact q
def Mut : Option HO → Prop
  | some (.lst _) => True
  | some (.dK _) => True
  | some (.dT _) => True
  | some (.set _ _) => True
  | some (.ins _ _ _) => True
  | some (.ext _) => True
  | _ => False
section
variable {P : Program} {w : World} {H : Hp} {h h' : Heap} {x e : Addr} {o' : HO}
theorem HOk.write (ok : HOk P w H h) (mu : Mut (H x)) (he : e = x ∨ H e = some (.own x)) (k : ∀ b u, b ≠ e → h.get? b = some u → h'.get? b = some u) (heo : ∃ u, h'.get? e = some u)
    (new : ObjOk P w (upd H x o') h' x o') : HOk P w (upd H x o') h' := fun b u q => by
  have nown : ∀ c y, H c = some (.own y) → c ≠ x := fun c y r z => by subst z; rw [r] at mu; exact mu
  have ntup : ∀ c xs, H c = some (.tup xs) → c ≠ x := fun c xs r z => by subst z; rw [r] at mu; exact mu
  by_cases hb : b = x
  · subst hb; rw [upd_same] at q; cases q; exact new
  · rw [upd_ne hb] at q
    by_cases hbe : b = e
    · have q' : H b = some (.own x) := by
        rcases he with z | z
        · exact absurd (hbe.trans z) hb
        · rw [hbe]; exact z
      rw [q] at q'; cases q'
      obtain ⟨v, hv⟩ := heo
      exact ⟨v, by rw [hbe]; exact hv⟩
    · refine (ok b u q).stay (fun c v hc r => k c v ?_ r) (fun c r => by rw [upd_ne (nown c b r)]; exact r) fun c xs r => by rw [upd_ne (ntup c xs r)]; exact r
      rcases hc with rfl | hc
      · exact hbe
      · rintro rfl
        rcases he with z | z
        · exact nown c b hc z
        · rw [hc] at z; cases z; exact hb rfl
end
structure Un (fs ex : List Addr) (H H' : Hp) (h h' : Heap) : Prop where
  keep : ∀ b o, h.get? b = some o → H b = none → b ∉ fs → b ∉ ex → h'.get? b = some o
  slot : ∀ b o, h.get? b = some o → H b = none → b ∈ fs → b ∉ ex → ∃ sl, h'.get? b = some { o with slots := sl }
  free : ∀ b o, h.get? b = some o → H b = none → b ∉ ex → H' b = none
  there : ∀ b o, h.get? b = some o → b ∉ ex → ∃ o', h'.get? b = some o'
  tups : ∀ b xs, H b = some (.tup xs) → H' b = some (.tup xs)
  frzs : ∀ b o u, H b = some (.frz o u) → H' b = some (.frz o u)
  tbls : ∀ b ps, H b = some (.tbl ps) → ∃ more, H' b = some (.tbl (ps ++ more))
section
variable {fs fs' ex ex' : List Addr} {H H1 H2 : Hp} {h h1 h2 h' : Heap} {a x e : Addr} {o : HO}
theorem Un.any (u : Un fs ex H H1 h h1) {b : Addr} {ob : Obj} (q : h.get? b = some ob) (n : H b = none) (hx : b ∉ ex) : ∃ sl, h1.get? b = some { ob with slots := sl } := by
  by_cases hb : b ∈ fs
  · exact u.slot b ob q n hb hx
  · exact ⟨ob.slots, u.keep b ob q n hb hx⟩
theorem Un.kept (k : ∀ b u, h.get? b = some u → h'.get? b = some u) : Un fs ex H H h h' :=
  ⟨fun b ob q _ _ _ => k b ob q, fun b ob q _ _ _ => ⟨ob.slots, k b ob q⟩, fun _ _ _ n _ => n, fun b ob q _ => ⟨ob, k b ob q⟩, fun _ _ q => q, fun _ _ _ q => q, fun _ ps q => ⟨#[], by rw [q]; simp⟩⟩
theorem Un.refl : Un fs ex H H h h := Un.kept fun _ _ q => q
theorem Un.laid (k : ∀ b u, h.get? b = some u → h'.get? b = some u) (hp : h.objs.size ≤ a) (hn : H a = none) : Un fs ex H (upd H a o) h h' where
  keep := fun b u q _ _ _ => k b u q
  slot := fun b u q _ _ _ => ⟨u.slots, k b u q⟩
  free := fun b u q n _ => by rw [upd_ne (Nat.ne_of_lt (Nat.lt_of_lt_of_le (Heap.lt_size q) hp))]; exact n
  there := fun b u q _ => ⟨u, k b u q⟩
  tups := fun b xs q => by rw [upd_ne (ne_of_none q hn)]; exact q
  frzs := fun b u xs q => by rw [upd_ne (ne_of_none q hn)]; exact q
  tbls := fun b ps q => ⟨#[], by rw [upd_ne (ne_of_none q hn), q]; simp⟩
theorem Un.write (mu : Mut (H x)) (he : e = x ∨ H e = some (.own x)) (k : ∀ b u, b ≠ e → h.get? b = some u → h'.get? b = some u) (heo : ∃ u, h'.get? e = some u) : Un fs ex H (upd H x o) h h' := by
  have hx : ∀ b, H b = none → b ≠ x := fun b n z => by subst z; rw [n] at mu; exact mu
  have hb : ∀ b, H b = none → b ≠ e := fun b n z => by
    subst z
    rcases he with r | r
    · exact hx b n r
    · rw [n] at r; cases r
  have hm : ∀ b u, H b = some u → ¬ Mut (some u) → b ≠ x := fun b u q nm z => by subst z; rw [q] at mu; exact nm mu
  refine ⟨fun b u q n _ _ => k b u (hb b n) q, fun b u q n _ _ => ⟨u.slots, k b u (hb b n) q⟩, fun b u q n _ => by rw [upd_ne (hx b n)]; exact n, fun b u q _ => ?_,
    fun b xs q => by rw [upd_ne (hm b _ q fun z => z)]; exact q, fun b u xs q => by rw [upd_ne (hm b _ q fun z => z)]; exact q, fun b ps q => ⟨#[], by rw [upd_ne (hm b _ q fun z => z), q]; simp⟩⟩
  by_cases hbe : b = e
  · subst hbe; exact heo
  · exact ⟨u, k b u hbe q⟩
end
def trk (h : Heap) (H : Hp) : List Addr := (List.range h.objs.size).filter fun a => (H a).isSome
def hidT (h : Heap) (H : Hp) : Heap := PySem.W.hideAll h (trk h H)
theorem hidT_size (h : Heap) (H : Hp) : (hidT h H).objs.size = h.objs.size := PySem.W.hideAll_size _ _
theorem hidT_get {h : Heap} {H : Hp} {b : Addr} {o : Obj} (e : h.get? b = some o) (n : H b = none) : (hidT h H).get? b = some o :=
  PySem.W.hideAll_get _ e fun hm => by
    have q : (H b).isSome = true := (List.mem_filter.mp hm).2
    rw [n] at q; simp at q
theorem of_hidT {h : Heap} {H : Hp} {b : Addr} {o : Obj} (e : (hidT h H).get? b = some o) : h.get? b = some o ∧ H b = none := by
  have e' : h.get? b = some o := PySem.W.of_hideAll (trk h H) e
  refine ⟨e', ?_⟩
  cases q : H b with
  | none => rfl
  | some x =>
    have hm : b ∈ trk h H := List.mem_filter.mpr ⟨List.mem_range.mpr (Heap.lt_size e'), by simp [q]⟩
    have z : (hidT h H).get? b = none := PySem.W.hideAll_none (trk h H) hm
    rw [z] at e; cases e
end L2
namespace L2
open PySem PySem.Spec PyProof.Rows
structure Mod (K : PySem.W.Frag) (mg : Str → Option Value) (base : Heap) : Prop where
  kin : K.In base
  glob : base.Ns mainGlobals mg
  blt : ∃ mb, base.Ns builtinsNs mb ∧ ∀ x : Str, x ≠ "__name__" → mb x = bootBuiltins x
  nolimit : base.NoLimit
structure Cx where
  prog : Program
  w : World
  K : PySem.W.Frag
  mg : Str → Option Value
  base : Heap
  A : Around
  N : List Str
  s_0 : Shared
  H_0 : Hp
  env : Env
  outer : List Env
  stack : List Env
  ex : List Addr
  fn : Str → Bool
  calm : Bool
  pn : List (Addr × Obj)
  xe : Value → Shared → Prop
def frs (l : List Env) : List Addr := l.filterMap (·.frame)
abbrev Cx.fs (X : Cx) : List Addr := frs X.outer
def Vis (sc : Scope) (x : Str) : Prop := sc.names.lookup x = some .local ∨ sc.names.lookup x = some .cell ∨ sc.names.lookup x = some .free
def Loc (sc : Scope) (x : Str) : Prop := sc.names.lookup x = some .local ∨ sc.names.lookup x = some .cell
def Look (env : Env) (h : Heap) (m : Str → Option Value) (x : Str) (u : Value) : Prop :=
  (env.kindOf x = some .local ∧ m x = some u) ∨ ((env.kindOf x = some .cell ∨ env.kindOf x = some .free) ∧ ∃ c, env.cells.lookup x = some c ∧ h.IsCell c (some u))
structure Cx.Ok (X : Cx) : Prop where
  mod : Mod X.K X.mg X.base
  kind : X.env.scope.kind = .function
  glob : X.env.globals = mainGlobals
  blt : X.env.builtins = builtinsNs
  above : X.s_0.heap.objs.size ≤ X.env.locals
  inj : ∀ x y c, X.env.cells.lookup x = some c → X.env.cells.lookup y = some c → x = y
  has : ∀ x, (X.env.kindOf x = some .cell ∨ X.env.kindOf x = some .free) → ∃ c, X.env.cells.lookup x = some c
  cab : ∀ x c, X.fn x = true → X.env.cells.lookup x = some c → X.s_0.heap.objs.size ≤ c
  hd : X.calm = true → X.A.handled = none
  frames : X.A.frames = some X.stack
  stk : X.stack = X.outer ∨ (X.stack = X.env :: X.outer ∧ X.env.frame = some X.env.locals)
  exf : ∀ b ∈ X.ex, b ≠ X.env.locals ∧ ∀ x c, X.env.cells.lookup x = some c → c ≠ b
  bs : ∀ b o, X.base.get? b = some o → X.s_0.heap.get? b = some o ∧ X.H_0 b = none
  bsz : X.base.objs.size ≤ X.s_0.heap.objs.size
  noex : ∀ b o, X.base.get? b = some o → b ∉ X.ex
  exfs : ∀ b ∈ X.ex, b ∉ X.fs
  funs : X.s_0.heap.FunFrames X.base X.outer
  frf : ∀ b ∈ X.fs, X.H_0 b = none
structure Inv (X : Cx) (pins : List (Addr × Obj)) (σ : List (Option V)) (H : Hp) (s : Shared) : Prop where
  ok : X.Ok
  os : s.os = X.s_0.os
  bare : AllBare s.gens
  base : Un X.fs X.ex X.H_0 H X.s_0.heap s.heap
  loc : ∃ m, s.heap.Ns X.env.locals m ∧ ∀ (i : Nat) (x : Str) (v : V), X.N[i]? = some x → σ[i]? = some (some v) → Vis X.env.scope x → ∃ u, RelV v u ∧ Look X.env s.heap m x u
  cell : ∀ x c, X.env.cells.lookup x = some c → ∃ v, s.heap.IsCell c v
  free : H X.env.locals = none
  freeC : ∀ x c, X.env.cells.lookup x = some c → H c = none
  pin : ∀ p ∈ X.pn ++ pins, s.heap.get? p.1 = some p.2 ∧ H p.1 = none ∧ p.1 ≠ X.env.locals ∧ p.1 ∉ X.fs ∧ ∀ v, p.2.data ≠ .cell v
  hok : HOk X.prog X.w H s.heap
  len : σ.length = X.N.length
section
variable {X : Cx} {pins : List (Addr × Obj)} {σ : List (Option V)} {H H' : Hp} {s : Shared} {h' : Heap}
theorem Cx.Ok.nofr (ok : X.Ok) {b : Addr} {o : Obj} (e : X.base.get? b = some o) : b ∉ X.fs := fun hb => by
  have := (ok.funs.mem hb).1
  rw [e] at this; cases this
theorem Inv.bs (I : Inv X pins σ H s) : ∀ b o, X.base.get? b = some o → s.heap.get? b = some o ∧ H b = none := fun b o e =>
  ⟨I.base.keep b o (I.ok.bs b o e).1 (I.ok.bs b o e).2 (I.ok.nofr e) (I.ok.noex b o e), I.base.free b o (I.ok.bs b o e).1 (I.ok.bs b o e).2 (I.ok.noex b o e)⟩
theorem Inv.bk (I : Inv X pins σ H s) : ∀ b o, X.base.get? b = some o → s.heap.get? b = some o := fun b o e => (I.bs b o e).1
theorem Inv.mod (I : Inv X pins σ H s) : Mod X.K X.mg X.base := I.ok.mod
theorem Inv.kIn (I : Inv X pins σ H s) : X.K.In s.heap := I.ok.mod.kin.keeps I.bk
theorem Inv.fr (I : Inv X pins σ H s) : ∃ m, Fr X.base X.env.locals s.heap m :=
  let ⟨m, hn, _⟩ := I.loc
  ⟨m, hn, I.bk, Nat.le_trans I.ok.bsz I.ok.above⟩
theorem Inv.lt (I : Inv X pins σ H s) : X.env.locals < s.heap.objs.size := let ⟨_, hn, _⟩ := I.loc; hn.lt
theorem Inv.sz (I : Inv X pins σ H s) : X.s_0.heap.objs.size ≤ s.heap.objs.size := Nat.le_trans I.ok.above (Nat.le_of_lt I.lt)
theorem Inv.nofs (I : Inv X pins σ H s) {a : Addr} (h : s.heap.objs.size ≤ a) : a ∉ X.fs := fun hb => by
  obtain ⟨_, o, ho, _⟩ := I.ok.funs.mem hb
  exact absurd (Nat.lt_of_lt_of_le (Heap.lt_size ho) (Nat.le_trans I.sz h)) (Nat.lt_irrefl _)
theorem Inv.cne (I : Inv X pins σ H s) : ∀ x c, X.env.cells.lookup x = some c → c ≠ X.env.locals := fun x c e z => by
  obtain ⟨v, o, ho, hd⟩ := I.cell x c e
  obtain ⟨m, ⟨o', es, ep, ho', hd', _⟩, _⟩ := I.loc
  rw [z, ho'] at ho; cases ho; rw [hd'] at hd; cases hd
theorem Inv.funs (I : Inv X pins σ H s) : s.heap.FunFrames X.base X.outer := by
  have all : ∀ (l : List Env), (∀ b ∈ frs l, b ∈ X.fs) → X.s_0.heap.FunFrames X.base l → s.heap.FunFrames X.base l := by
    intro l
    induction l with
    | nil => intro _ _; trivial
    | cons env r ih =>
      intro hs hl
      obtain ⟨hk, ⟨L, o, hf, hn, ho, hd⟩, hr⟩ := hl
      have hL : L ∈ X.fs := hs L (by unfold frs; rw [List.filterMap_cons, hf]; exact List.mem_cons_self)
      obtain ⟨sl, e⟩ := I.base.slot L o ho (I.ok.frf L hL) hL fun z => I.ok.exfs L z hL
      exact ⟨hk, ⟨L, _, hf, hn, e, hd⟩, ih (fun b hb => hs b (by unfold frs; rw [List.filterMap_cons, hf]; exact List.mem_cons_of_mem _ hb)) hr⟩
  exact all X.outer (fun _ hb => hb) I.ok.funs
theorem Inv.stack (I : Inv X pins σ H s) : s.heap.FunFrames X.base X.stack := by
  rcases I.ok.stk with e | ⟨e, hf⟩
  · rw [e]; exact I.funs
  · rw [e]
    obtain ⟨m, hn, _⟩ := I.loc
    refine .cons (by rw [I.ok.kind]; decide) hf hn ?_ I.funs
    exact Heap.get?_none_of_le (Nat.le_trans I.ok.bsz I.ok.above)
theorem Inv.stkSub (I : Inv X pins σ H s) : ∀ b ∈ frs X.stack, b ∈ X.env.locals :: X.fs := fun b hb => by
  rcases I.ok.stk with e | ⟨e, hf⟩
  · rw [e] at hb; exact List.mem_cons_of_mem _ hb
  · rw [e] at hb
    unfold frs at hb
    rw [List.filterMap_cons, hf] at hb
    exact hb
theorem Inv.stkFree (I : Inv X pins σ H s) : ∀ b ∈ frs X.stack, H b = none := fun b hb => by
  rcases List.mem_cons.mp (I.stkSub b hb) with e | hb
  · rw [e]; exact I.free
  · obtain ⟨_, o, ho, _⟩ := I.ok.funs.mem hb
    exact I.base.free b o ho (I.ok.frf b hb) fun z => I.ok.exfs b z hb
theorem Inv.step {g' : Array GenState} {t' : Nat} {d' : Drawn} {ch : List Addr} (I : Inv X pins σ H s)
    (hch : ∀ b ∈ ch, (b ∈ X.ex ∨ X.s_0.heap.objs.size ≤ b) ∧ b ≠ X.env.locals ∧ (∀ x c, X.env.cells.lookup x = some c → c ≠ b) ∧ ∀ p ∈ X.pn ++ pins, p.1 ≠ b)
    (keep : ∀ b o, b ≠ X.env.locals → b ∉ X.fs → b ∉ ch → s.heap.get? b = some o → H b = none → h'.get? b = some o)
    (slot : ∀ b o, b ≠ X.env.locals → b ∈ X.fs → b ∉ ch → s.heap.get? b = some o → H b = none → ∃ sl, h'.get? b = some { o with slots := sl }) (free : ∀ b o, b ∉ ch → s.heap.get? b = some o → H b = none → H' b = none)
    (there : ∀ b o, b ∉ ch → s.heap.get? b = some o → ∃ o', h'.get? b = some o')
    (tups : ∀ b xs, H b = some (.tup xs) → H' b = some (.tup xs)) (frzs : ∀ b o u, H b = some (.frz o u) → H' b = some (.frz o u)) (tbls : ∀ b ps, H b = some (.tbl ps) → ∃ more, H' b = some (.tbl (ps ++ more)))
    (ns : ∀ m, s.heap.Ns X.env.locals m → h'.Ns X.env.locals m) (hok : HOk X.prog X.w H' h') (hg : AllBare g') :
    Inv X pins σ H' { s with heap := h', gens := g', drawn := d', toks := t' } := by
  have neL : ∀ b o, X.s_0.heap.get? b = some o → b ≠ X.env.locals := fun b o e => Nat.ne_of_lt (Nat.lt_of_lt_of_le (Heap.lt_size e) I.ok.above)
  have neC : ∀ b o, X.s_0.heap.get? b = some o → b ∉ X.ex → b ∉ ch := fun b o e hx hb => by
    rcases (hch b hb).1 with z | z
    · exact hx z
    · exact absurd (Nat.lt_of_lt_of_le (Heap.lt_size e) z) (Nat.lt_irrefl _)
  have cellK : ∀ x c, X.env.cells.lookup x = some c → ∀ v, s.heap.IsCell c v → h'.IsCell c v := fun x c e v ⟨o, ho, hd⟩ => by
    have nch : c ∉ ch := fun z => (hch c z).2.2.1 x c e rfl
    by_cases hc : c ∈ X.fs
    · obtain ⟨sl, q⟩ := slot c o (I.cne x c e) hc nch ho (I.freeC x c e)
      exact ⟨_, q, hd⟩
    · exact ⟨o, keep c o (I.cne x c e) hc nch ho (I.freeC x c e), hd⟩
  refine ⟨I.ok, I.os, hg, ⟨fun b o e n hb hx => ?_, fun b o e n hb hx => ?_, fun b o e n hx => ?_, fun b o e hx => ?_, fun b xs e => tups b xs (I.base.tups b xs e), fun b o xs e => frzs b o xs (I.base.frzs b o xs e), fun b ps e => ?_⟩, ?_, fun x c e => ?_, ?_, fun x c e => ?_, fun p hp => ?_, hok, I.len⟩
  · exact keep b o (neL b o e) hb (neC b o e hx) (I.base.keep b o e n hb hx) (I.base.free b o e n hx)
  · obtain ⟨sl, e1⟩ := I.base.slot b o e n hb hx
    obtain ⟨sl', e2⟩ := slot b _ (neL b o e) hb (neC b o e hx) e1 (I.base.free b o e n hx)
    exact ⟨sl', e2⟩
  · obtain ⟨o', e1⟩ := I.base.there b o e hx
    exact free b o' (neC b o e hx) e1 (I.base.free b o e n hx)
  · obtain ⟨o', e1⟩ := I.base.there b o e hx
    exact there b o' (neC b o e hx) e1
  · obtain ⟨m1, e1⟩ := I.base.tbls b ps e
    obtain ⟨m2, e2⟩ := tbls b _ e1
    exact ⟨m1 ++ m2, by rw [e2, Array.append_assoc]⟩
  · obtain ⟨m, hn, hl⟩ := I.loc
    refine ⟨m, ns m hn, fun i x v e1 e2 e3 => ?_⟩
    obtain ⟨u, r, l⟩ := hl i x v e1 e2 e3
    refine ⟨u, r, ?_⟩
    rcases l with l | ⟨k, c, e, z⟩
    · exact .inl l
    · exact .inr ⟨k, c, e, cellK x c e _ z⟩
  · obtain ⟨v, z⟩ := I.cell x c e
    exact ⟨v, cellK x c e v z⟩
  · obtain ⟨m, ⟨o, _, _, ho, _⟩, _⟩ := I.loc
    exact free _ o (fun z => (hch _ z).2.1 rfl) ho I.free
  · obtain ⟨v, o, ho, hd⟩ := I.cell x c e
    exact free c o (fun z => (hch c z).2.2.1 x c e rfl) ho (I.freeC x c e)
  · obtain ⟨e, n, ne, nf, d⟩ := I.pin p hp
    have nch : p.1 ∉ ch := fun z => (hch p.1 z).2.2.2 p hp rfl
    exact ⟨keep p.1 p.2 ne nf nch e n, free p.1 p.2 nch e n, ne, nf, d⟩
theorem Inv.un {t' : Nat} (I : Inv X pins σ H s) (u : Un X.fs [] H H' s.heap h') (hok : HOk X.prog X.w H' h') : Inv X pins σ H' { s with heap := h', toks := t' } := by
  obtain ⟨m, ⟨o, es, ep, ho, r⟩, _⟩ := id I.loc
  obtain ⟨sl, hL⟩ := u.any ho I.free (by simp)
  exact I.step (g' := s.gens) (d' := s.drawn) (ch := []) (fun _ z => nomatch z) (fun b o _ hb _ e n => u.keep b o e n hb (by simp)) (fun b o _ hb _ e n => u.slot b o e n hb (by simp)) (fun b o _ e n => u.free b o e n (by simp)) (fun b o _ e => u.there b o e (by simp)) u.tups u.frzs u.tbls (fun m' hm => by
    obtain ⟨o', es', ep', ho', r'⟩ := hm
    rw [ho] at ho'; cases ho'
    exact ⟨_, es', ep', hL, r'⟩) hok I.bare
theorem Inv.call {g' : Array GenState} {t' : Nat} {d' : Drawn} {ch : List Addr} (I : Inv X pins σ H s) (u : Un (frs X.stack) ch H H' s.heap h') (hok : HOk X.prog X.w H' h') (hg : AllBare g')
    (hch : ∀ b ∈ ch, (b ∈ X.ex ∨ X.s_0.heap.objs.size ≤ b) ∧ b ≠ X.env.locals ∧ (∀ x c, X.env.cells.lookup x = some c → c ≠ b) ∧ ∀ p ∈ X.pn ++ pins, p.1 ≠ b) :
    Inv X pins σ H' { s with heap := h', gens := g', drawn := d', toks := t' } := by
  obtain ⟨m, ⟨o, es, ep, ho, r⟩, _⟩ := id I.loc
  obtain ⟨sl, hL⟩ := u.any ho I.free fun z => (hch _ z).2.1 rfl
  exact I.step (ch := ch) hch (fun b o hL hb hc e n => u.keep b o e n (fun z => (List.mem_cons.mp (I.stkSub b z)).elim hL hb) hc) (fun b o _ _ hc e n => u.any e n hc) (fun b o hc e n => u.free b o e n hc) (fun b o hc e => u.there b o e hc) u.tups u.frzs u.tbls (fun m' hm => by
    obtain ⟨o', es', ep', ho', r'⟩ := hm
    rw [ho] at ho'; cases ho'
    exact ⟨_, es', ep', hL, r'⟩) hok hg
theorem Inv.turned {t' : Nat} {it : Addr} (I : Inv X pins σ H s) (k : ∀ b o, b ≠ it → s.heap.get? b = some o → h'.get? b = some o) (hn : H it = none) (hL : it ≠ X.env.locals)
    (h1 : it ∈ X.ex ∨ X.s_0.heap.objs.size ≤ it) (h2 : ∀ x c, X.env.cells.lookup x = some c → c ≠ it) (h3 : ∀ p ∈ X.pn ++ pins, p.1 ≠ it) : Inv X pins σ H { s with heap := h', toks := t' } := by
  have nit : ∀ b u, H b = some u → b ≠ it := fun b u e z => by rw [z, hn] at e; cases e
  refine I.step (g' := s.gens) (d' := s.drawn) (ch := [it]) (fun b hb => ?_) (fun b o _ _ hc e _ => k b o (fun z => hc (by simp [z])) e) (fun b o _ _ hc e _ => ⟨o.slots, k b o (fun z => hc (by simp [z])) e⟩) (fun _ _ _ _ n => n)
    (fun b o hc e => ⟨o, k b o (fun z => hc (by simp [z])) e⟩) (fun _ _ e => e) (fun _ _ _ e => e) (fun b ps e => ⟨#[], by rw [e]; simp⟩) (fun m hm => ?_) (fun b u e => ?_) I.bare
  · have e : b = it := by simpa using hb
    subst e
    exact ⟨h1, hL, h2, h3⟩
  · obtain ⟨o, es, ep, ho, r⟩ := hm
    exact ⟨o, es, ep, k _ o (Ne.symm hL) ho, r⟩
  · refine (I.hok b u e).stay (fun c v hc q => k c v ?_ q) (fun _ q => q) fun _ _ q => q
    rcases hc with z | z
    · rw [z]; exact nit b u e
    · exact nit c _ z
theorem Inv.tok (I : Inv X pins σ H s) (t : Nat) : Inv X pins σ H { s with toks := t } := I.un (h' := s.heap) (t' := t) Un.refl I.hok
theorem Inv.kept {t' : Nat} (I : Inv X pins σ H s) (k : ∀ b u, s.heap.get? b = some u → h'.get? b = some u) : Inv X pins σ H { s with heap := h', toks := t' } := I.un (Un.kept k) (I.hok.kept k)
theorem Inv.laid {a : Addr} {o : HO} {t' : Nat} (I : Inv X pins σ H s) (k : ∀ b u, s.heap.get? b = some u → h'.get? b = some u) (hp : s.heap.objs.size ≤ a) (new : ObjOk X.prog X.w (upd H a o) h' a o) :
    Inv X pins σ (upd H a o) { s with heap := h', toks := t' } := I.un (Un.laid k hp (I.hok.fresh hp)) (I.hok.laid k hp new)
theorem Inv.write {x e : Addr} {o : HO} {t' : Nat} (I : Inv X pins σ H s) (mu : Mut (H x)) (he : e = x ∨ H e = some (.own x)) (k : ∀ b u, b ≠ e → s.heap.get? b = some u → h'.get? b = some u) (heo : ∃ u, h'.get? e = some u)
    (new : ObjOk X.prog X.w (upd H x o) h' x o) : Inv X pins σ (upd H x o) { s with heap := h', toks := t' } := I.un (Un.write mu he k heo) (I.hok.write mu he k heo new)
theorem Inv.weak {σ' : List (Option V)} (I : Inv X pins σ H s) (hl : σ'.length = σ.length) (w : ∀ (i : Nat) v, σ'[i]? = some (some v) → σ[i]? = some (some v)) : Inv X pins σ' H s :=
  ⟨I.ok, I.os, I.bare, I.base, let ⟨m, hn, hl'⟩ := I.loc; ⟨m, hn, fun i x v e1 e2 e3 => hl' i x v e1 (w i v e2) e3⟩, I.cell, I.free, I.freeC, I.pin, I.hok, hl.trans I.len⟩
theorem Inv.pins_of {pins' : List (Addr × Obj)} (I : Inv X pins σ H s) (h : ∀ p ∈ pins', s.heap.get? p.1 = some p.2 ∧ H p.1 = none ∧ p.1 ≠ X.env.locals ∧ p.1 ∉ X.fs ∧ ∀ v, p.2.data ≠ .cell v) : Inv X pins' σ H s :=
  ⟨I.ok, I.os, I.bare, I.base, I.loc, I.cell, I.free, I.freeC, fun p hp => (List.mem_append.mp hp).elim (fun z => I.pin p (List.mem_append_left _ z)) (h p), I.hok, I.len⟩
theorem nodup_ix {N : List Str} (hN : N.Nodup) {i j : Nat} {x : Str} (a : N[i]? = some x) (b : N[j]? = some x) : i = j := by
  obtain ⟨h1, e1⟩ := List.getElem?_eq_some_iff.mp a
  obtain ⟨h2, e2⟩ := List.getElem?_eq_some_iff.mp b
  exact (List.getElem_inj hN).mp (e1.trans e2.symm)
theorem store_ok2 {M : Model} {A : Around} {E : Value → Shared → Prop} {i : Nat} {x : Str} {v : V} {u : Value} {Q : Unit → Shared → Prop} (I : Inv X pins σ H s) (hN : X.N.Nodup) (hi : X.N[i]? = some x) (hx : Loc X.env.scope x) (r : RelV v u)
    (h : ∀ s', Inv X pins (σ.set i (some v)) H s' → (∃ a, Heap.SameBut a s.heap s'.heap ∧ (a = X.env.locals ∨ X.env.cells.lookup x = some a)) → Q () s') (hf : X.fn x = true ∨ X.env.scope.names.lookup x = some .local := by first | exact .inl rfl | exact .inr rfl | assumption) : wpAny M A (storeName X.env x u) Q E s := by
  obtain ⟨m, hn, hl⟩ := id I.loc
  have hcls : (X.env.scope.kind == .class || (X.env.scope.kind == .module && X.env.locals != X.env.globals)) = false := by rw [I.ok.kind]; rfl
  have hiσ : i < σ.length := by rw [I.len]; exact (List.getElem?_eq_some_iff.mp hi).1
  have cne := I.cne
  have tracked : ∀ {a : Addr} {h' : Heap}, (∃ o, s.heap.get? a = some o ∧ H a = none) → Heap.SameBut a s.heap h' → HOk X.prog X.w H h' := fun {a h'} ha hs b ob e => by
    obtain ⟨_, _, hfree⟩ := ha
    refine (I.hok b ob e).stay (fun c w' hc q => (hs.2 c ?_).trans q) (fun _ q => q) fun _ _ q => q
    rintro rfl
    rcases hc with rfl | hc
    · rw [hfree] at e; cases e
    · rw [hfree] at hc; cases hc
  rcases hx with hk | hk
  · refine wpAny_storeName_local hk hn (fun h' hn' hs => ?_) hcls
    obtain ⟨oL, _, _, hoL, _⟩ := id hn
    refine h _ ⟨I.ok, I.os, I.bare, ⟨fun b o e n hb hx => ?_, fun b o e n hb hx => ?_, I.base.free, fun b o e hx => ?_, I.base.tups, I.base.frzs, I.base.tbls⟩, ⟨_, hn', fun j y v' e1 e2 e3 => ?_⟩, fun y c e => ?_, I.free, I.freeC, fun p hp => ?_, tracked ⟨oL, hoL, I.free⟩ hs, by simpa using I.len⟩ ⟨_, hs, .inl rfl⟩
    · exact (hs.2 b (Nat.ne_of_lt (Nat.lt_of_lt_of_le (Heap.lt_size e) I.ok.above))).trans (I.base.keep b o e n hb hx)
    · obtain ⟨sl, e1⟩ := I.base.slot b o e n hb hx
      exact ⟨sl, (hs.2 b (Nat.ne_of_lt (Nat.lt_of_lt_of_le (Heap.lt_size e) I.ok.above))).trans e1⟩
    · obtain ⟨o', e1⟩ := I.base.there b o e hx
      exact ⟨o', (hs.2 b (Nat.ne_of_lt (Nat.lt_of_lt_of_le (Heap.lt_size e) I.ok.above))).trans e1⟩
    · by_cases hj : j = i
      · subst hj
        rw [hi] at e1; cases e1
        rw [List.getElem?_set_self hiσ] at e2
        cases e2
        exact ⟨u, r, .inl ⟨hk, by simp⟩⟩
      · rw [List.getElem?_set_ne (Ne.symm hj)] at e2
        obtain ⟨u', r', q⟩ := hl j y v' e1 e2 e3
        refine ⟨u', r', ?_⟩
        rcases q with ⟨k, e⟩ | ⟨k, c, e, z⟩
        · refine .inl ⟨k, ?_⟩
          have : y ≠ x := fun e => hj (nodup_ix hN e1 (e ▸ hi))
          simp [this, e]
        · exact .inr ⟨k, c, e, z.sameBut hs (cne y c e)⟩
    · obtain ⟨w', z⟩ := I.cell y c e
      exact ⟨w', z.sameBut hs (cne y c e)⟩
    · obtain ⟨e, n, ne, nf, d⟩ := I.pin p hp
      exact ⟨(hs.2 p.1 ne).trans e, n, ne, nf, d⟩
  · have hfn : X.fn x = true := by
      rcases hf with z | z
      · exact z
      · rw [z] at hk; cases hk
    obtain ⟨c, hc⟩ := I.ok.has x (.inl hk)
    obtain ⟨w', z⟩ := I.cell x c hc
    refine wpAny_storeName_cell I.ok.kind hk hc z (fun h' hc' hs => ?_)
    obtain ⟨oc, hoc, hocd⟩ := id z
    refine h { s with heap := h' } ⟨I.ok, I.os, I.bare, ⟨fun b o e n hb hx => ?_, fun b o e n hb hx => ?_, I.base.free, fun b o e hx => ?_, I.base.tups, I.base.frzs, I.base.tbls⟩, ⟨m, hn.sameBut hs (Ne.symm (cne x c hc)), fun j y v' e1 e2 e3 => ?_⟩, fun y c' e => ?_, I.free, I.freeC, fun p hp => ?_, tracked ⟨oc, hoc, I.freeC x c hc⟩ hs, by simpa using I.len⟩ ⟨c, hs, .inr hc⟩
    · exact (hs.2 b (Nat.ne_of_lt (Nat.lt_of_lt_of_le (Heap.lt_size e) (I.ok.cab x c hfn hc)))).trans (I.base.keep b o e n hb hx)
    · obtain ⟨sl, e1⟩ := I.base.slot b o e n hb hx
      exact ⟨sl, (hs.2 b (Nat.ne_of_lt (Nat.lt_of_lt_of_le (Heap.lt_size e) (I.ok.cab x c hfn hc)))).trans e1⟩
    · obtain ⟨o', e1⟩ := I.base.there b o e hx
      exact ⟨o', (hs.2 b (Nat.ne_of_lt (Nat.lt_of_lt_of_le (Heap.lt_size e) (I.ok.cab x c hfn hc)))).trans e1⟩
    · by_cases hj : j = i
      · subst hj
        rw [hi] at e1; cases e1
        rw [List.getElem?_set_self hiσ] at e2
        cases e2
        exact ⟨u, r, .inr ⟨.inl hk, c, hc, hc'⟩⟩
      · rw [List.getElem?_set_ne (Ne.symm hj)] at e2
        obtain ⟨u', r', q⟩ := hl j y v' e1 e2 e3
        refine ⟨u', r', ?_⟩
        rcases q with q | ⟨k, c', e, z'⟩
        · exact .inl q
        · refine .inr ⟨k, c', e, z'.sameBut hs ?_⟩
          rintro rfl
          exact hj (nodup_ix hN e1 (I.ok.inj _ _ _ e hc ▸ hi))
    · by_cases hcc : c' = c
      · subst hcc; exact ⟨_, hc'⟩
      · obtain ⟨w2, z2⟩ := I.cell y c' e
        exact ⟨w2, z2.sameBut hs hcc⟩
    · obtain ⟨e, n, ne, nf, d⟩ := I.pin p hp
      refine ⟨(hs.2 p.1 ?_).trans e, n, ne, nf, d⟩
      intro q
      rw [q, hoc] at e
      have q' : oc = p.2 := Option.some.inj e
      exact d w' (by rw [← q']; exact hocd)
theorem store_ok {M : Model} {A : Around} {E : Value → Shared → Prop} {i : Nat} {x : Str} {v : V} {u : Value} {Q : Unit → Shared → Prop} (I : Inv X pins σ H s) (hN : X.N.Nodup) (hi : X.N[i]? = some x) (hx : Loc X.env.scope x) (r : RelV v u)
    (h : ∀ s', Inv X pins (σ.set i (some v)) H s' → Q () s') (hf : X.fn x = true ∨ X.env.scope.names.lookup x = some .local := by first | exact .inl rfl | exact .inr rfl | assumption) : wpAny M A (storeName X.env x u) Q E s :=
  store_ok2 I hN hi hx r (fun s' I' _ => h s' I') hf
theorem Inv.call' {s' : Shared} {ch : List Addr} (I : Inv X pins σ H s) (ho : s'.os = s.os) (u : Un (frs X.stack) ch H H' s.heap s'.heap) (hok : HOk X.prog X.w H' s'.heap) (hg : AllBare s'.gens)
    (hch : ∀ b ∈ ch, (b ∈ X.ex ∨ X.s_0.heap.objs.size ≤ b) ∧ b ≠ X.env.locals ∧ (∀ x c, X.env.cells.lookup x = some c → c ≠ b) ∧ ∀ p ∈ X.pn ++ pins, p.1 ≠ b) : Inv X pins σ H' s' := by
  obtain ⟨h', g', d', t', o'⟩ := s'
  have e : o' = s.os := ho
  subst e
  exact I.call (g' := g') (t' := t') (d' := d') u hok hg hch
end
abbrev XK := Value → Option Addr → Hp → Prop
abbrev St := List (Option V)
abbrev VK := V → Hp → Prop
abbrev TE := St → Hp → VK → Prop
abbrev TT := St → Hp → (Bool → Hp → Prop) → Prop
abbrev TA := St → Hp → (List V → Hp → Prop) → Prop
structure Ends where
  nx : St → Hp → Prop
  rt : VK
  bk : St → Hp → Prop := fun _ _ => False
  ct : St → Hp → Prop := fun _ _ => False
abbrev TS := Ends → St → Hp → Prop
def EP (X : Cx) (pins : List (Addr × Obj)) (σ : St) (Q : VK) (u : Value) (s' : Shared) : Prop := ∃ v H', Inv X pins σ H' s' ∧ RelV v u ∧ Q v H'
def TP (X : Cx) (pins : List (Addr × Obj)) (σ : St) (Q : Bool → Hp → Prop) (b : Bool) (s' : Shared) : Prop := ∃ H', Inv X pins σ H' s' ∧ Q b H'
def AP (X : Cx) (pins : List (Addr × Obj)) (σ : St) (Q : List V → Hp → Prop) (us : List Value) (s' : Shared) : Prop := ∃ vs H', Inv X pins σ H' s' ∧ Vals vs us ∧ Q vs H'
def SP (X : Cx) (pins : List (Addr × Obj)) (D : Ends) (f : Flow) (s' : Shared) : Prop :=
  match f with
  | .next => ∃ σ' H', Inv X pins σ' H' s' ∧ D.nx σ' H'
  | .brk => ∃ σ' H', Inv X pins σ' H' s' ∧ D.bk σ' H'
  | .cont => ∃ σ' H', Inv X pins σ' H' s' ∧ D.ct σ' H'
  | .ret u => ∃ v σ' H', Inv X pins σ' H' s' ∧ RelV v u ∧ D.rt v H'
def PE (X : Cx) (e : Expr) (t : TE) : Prop :=
  ∀ (pins : List (Addr × Obj)) (s : Shared) (σ : St) (H : Hp) (Q : VK), Inv X pins σ H s → t σ H Q → wpAny (model X.prog X.w) X.A (eval e X.env) (EP X pins σ Q) X.xe s
def PT (X : Cx) (e : Expr) (t : TT) : Prop :=
  ∀ (pins : List (Addr × Obj)) (s : Shared) (σ : St) (H : Hp) (Q : Bool → Hp → Prop), Inv X pins σ H s → t σ H Q → wpAny (model X.prog X.w) X.A (isTrue e X.env (eval e X.env)) (TP X pins σ Q) X.xe s
def PW (X : Cx) (e : Expr) (t : TT) : Prop :=
  ∀ (whole : Sem Value) (pins : List (Addr × Obj)) (s : Shared) (σ : St) (H : Hp) (Q : Bool → Hp → Prop), Inv X pins σ H s → t σ H Q → wpAny (model X.prog X.w) X.A (isTrue e X.env whole) (TP X pins σ Q) X.xe s
theorem PW.pt {X : Cx} {e : Expr} {t : TT} (h : PW X e t) : PT X e t := h _
def PA (X : Cx) (es : List Expr) (t : TA) : Prop :=
  ∀ (pos : Pos) (pins : List (Addr × Obj)) (s : Shared) (σ : St) (H : Hp) (Q : List V → Hp → Prop), Inv X pins σ H s → t σ H Q → wpAny (model X.prog X.w) X.A (spliced (backTo pos (starEach es X.env))) (AP X pins σ Q) X.xe s
def PS (X : Cx) (st : Stmt) (t : TS) : Prop :=
  ∀ (pins : List (Addr × Obj)) (s : Shared) (σ : St) (H : Hp) (D : Ends), Inv X pins σ H s → t D σ H → wpAny (model X.prog X.w) X.A (exec st X.env) (SP X pins D) X.xe s
def PSs (X : Cx) (st : List Stmt) (t : TS) : Prop :=
  ∀ (pins : List (Addr × Obj)) (s : Shared) (σ : St) (H : Hp) (D : Ends), Inv X pins σ H s → t D σ H → wpAny (model X.prog X.w) X.A (execs st X.env) (SP X pins D) X.xe s
theorem thn {α : Type} {t : Sem α} {Q Q' : α → Shared → Prop} {M : Model} {A : Around} {E : Value → Shared → Prop} {s : Shared} (h : wpAny M A t Q E s) (hQ : ∀ a s, Q a s → Q' a s) : wpAny M A t Q' E s := wpAny_mono h hQ fun _ _ x => x
end L2
namespace L2
open PySem PySem.Spec PyProof.Rows
section
variable {X : Cx}
def tVar (i : Nat) : TE := fun σ H Q => ∃ v, σ[i]? = some (some v) ∧ Q v H
def tC (v : V) : TE := fun _ H Q => Q v H
theorem pe_var {i : Nat} {x : Str} {pos : Pos} (hN : X.N[i]? = some x) (hv : Vis X.env.scope x) (hd : (x == ("__debug__" : Str)) = false := by decide) (hcd : (x == ("__classdict__" : Str)) = false := by decide) : PE X (.Name x pos) (tVar i) := by
  intro pins s σ H Q I h
  obtain ⟨v, e, h⟩ := h
  obtain ⟨m, hn, hl⟩ := I.loc
  obtain ⟨u, r, l⟩ := hl i x v hN e hv
  have fin : EP X pins σ Q u s := ⟨v, H, I, r, h⟩
  rcases l with ⟨hk, hm⟩ | ⟨hk, c, hc, hcell⟩
  · exact wpAny_Name (wpAny_loadName_local I.ok.kind hk hn hm fin) hd
  · rcases hk with hk | hk
    · exact wpAny_Name (wpAny_loadName_cell I.ok.kind hk hc hcell fin) hd
    · exact wpAny_Name (wpAny_loadName_free I.ok.kind hk hc hcell fin hcd) hd
theorem pe_int {i j pos} : PE X (.Constant (.int i) j pos) (tC (.int i)) := fun _ _ _ H _ I h => wpAny_Constant_int ⟨.int i, H, I.tok _, ⟨_, rfl⟩, h⟩
theorem pe_bl {b j pos} : PE X (.Constant (.bool b) j pos) (tC (.bl b)) := fun _ _ _ H _ I h => Constant_bool ⟨.bl b, H, I, rfl, h⟩
theorem pe_str {x j pos} : PE X (.Constant (.str x) j pos) (tC (.str x)) := fun _ _ _ H _ I h => Calls.Constant_str ⟨.str x, H, I.tok _, ⟨_, rfl⟩, h⟩
def Gl (X : Cx) (x : Str) : Prop := X.env.kindOf x = some .globalImplicit
theorem ld_glob {E : Value → Shared → Prop} {pins : List (Addr × Obj)} {s : Shared} {σ : St} {H : Hp} {x : Str} {u : Value} {pos : Pos} {Q : Value → Shared → Prop} (I : Inv X pins σ H s) (hg : Gl X x) (hm : X.mg x = some u) (h : Q u s)
    (hd : (x == ("__debug__" : Str)) = false := by decide) : wpAny (model X.prog X.w) X.A (eval (.Name x pos) X.env) Q E s :=
  Calls.Name_function_global I.ok.kind hg (Calls.loadGlobal_global (by rw [I.ok.glob]; exact I.mod.glob.keeps I.bk) hm h) hd
theorem ld_blt {E : Value → Shared → Prop} {pins : List (Addr × Obj)} {s : Shared} {σ : St} {H : Hp} {x : Str} {u : Value} {pos : Pos} {Q : Value → Shared → Prop} (I : Inv X pins σ H s) (hg : Gl X x) (hm : X.mg x = none) (hv : bootBuiltins x = some u) (h : Q u s)
    (hn : x ≠ "__name__" := by decide) (hd : (x == ("__debug__" : Str)) = false := by decide) : wpAny (model X.prog X.w) X.A (eval (.Name x pos) X.env) Q E s := by
  obtain ⟨mb, h1, h2⟩ := I.mod.blt
  exact Calls.Name_function_global I.ok.kind hg (Calls.loadGlobal_builtin (by rw [I.ok.glob]; exact I.mod.glob.keeps I.bk) hm (by rw [I.ok.blt]; exact h1.keeps I.bk) ((h2 x hn).trans hv) h) hd
theorem pe_glob {x : Str} {v : V} {u : Value} {pos : Pos} (hg : Gl X x) (hm : X.mg x = some u) (r : RelV v u) (hd : (x == ("__debug__" : Str)) = false := by decide) : PE X (.Name x pos) (tC v) :=
  fun _ _ _ H _ I h => ld_glob I hg hm ⟨v, H, I, r, h⟩ hd
variable {a b : Expr} {ta tb : TE} {pos : Pos}
def PC (X : Cx) (op : CmpOp) (a b : Expr) (t : TE) : Prop :=
  ∀ (pins : List (Addr × Obj)) (s : Shared) (σ : St) (H : Hp) (Q : VK), Inv X pins σ H s → t σ H Q →
    wpAny (model X.prog X.w) X.A (eval a X.env) (fun v s₁ => wpAny (model X.prog X.w) X.A (eval b X.env) (fun u s₂ => wpAny (model X.prog X.w) X.A (compareOp op v u) (EP X pins σ Q) X.xe s₂) X.xe s₁) X.xe s
def tB (t : TE) : TT := fun σ H Q => t σ H fun x H1 => ∃ c, x = .bl c ∧ Q c H1
theorem pt_cmp {op : CmpOp} {t : TE} (h : PC X op a b t) (h1 : behindInMarks op b = false := by first | exact nobehind _ (by decide) (by decide) | rfl) : PT X (.Compare a [op] [b] pos) (tB t) := by
  intro pins s σ H Q I hw
  refine wpAny_isTrue_Compare1 (thn (h pins s σ H _ I hw) fun v s1 h1 => thn h1 fun u s2 h2 => thn h2 fun c s3 ⟨x, H1, I1, r1, q1⟩ => ?_) h1
  obtain ⟨d, rfl, q⟩ := q1
  cases r1
  exact wpAny_truthy_bool ⟨H1, I1, q⟩
theorem pt_val {e : Expr} {t : TE} (h : PE X e t) (he : ∀ whole, isTrue e X.env whole = (do let v ← whole; standAt e.pos; holding [v] (truthy v)) := by intro _; rfl) : PT X e (tB t) := by
  intro pins s σ H Q I hw
  refine isTrue_plain (thn (h pins s σ H _ I hw) fun v s1 ⟨x, H1, I1, r1, q1⟩ => ?_) (he _)
  obtain ⟨d, rfl, q⟩ := q1
  cases r1
  exact wpAny_truthy_bool ⟨H1, I1, q⟩
variable {tA tB' : TT} {rest : List Expr}
def tAnd (t u : TT) : TT := fun σ H Q => t σ H fun c H1 => if c = true then u σ H1 Q else Q false H1
def tOr (t u : TT) : TT := fun σ H Q => t σ H fun c H1 => if c = true then Q true H1 else u σ H1 Q
def tNot (t : TT) : TT := fun σ H Q => t σ H fun c H1 => Q (!c) H1
theorem pw_and1 (ha : PT X a tA) : PW X (.BoolOp .And [a] pos) tA := by
  intro wh pins s σ H Q I h
  refine isTrue_and (thn (ha pins s σ H Q I h) fun c s1 e => ?_)
  cases c with
  | true => exact isTrue_and_nil e
  | false => exact e
theorem pw_or1 (ha : PT X a tA) : PW X (.BoolOp .Or [a] pos) tA := by
  intro wh pins s σ H Q I h
  refine isTrue_or (thn (ha pins s σ H Q I h) fun c s1 e => ?_)
  cases c with
  | false => exact isTrue_or_nil e
  | true => exact e
theorem pw_and (ha : PT X a tA) (hb : PW X (.BoolOp .And (b :: rest) pos) tB') : PW X (.BoolOp .And (a :: b :: rest) pos) (tAnd tA tB') := by
  intro wh pins s σ H Q I h
  refine isTrue_and (thn (ha pins s σ H _ I h) fun c s1 ⟨H1, I1, q1⟩ => ?_)
  cases c with
  | true => exact hb wh pins s1 σ H1 Q I1 q1
  | false => exact ⟨H1, I1, q1⟩
theorem pw_or (ha : PT X a tA) (hb : PW X (.BoolOp .Or (b :: rest) pos) tB') : PW X (.BoolOp .Or (a :: b :: rest) pos) (tOr tA tB') := by
  intro wh pins s σ H Q I h
  refine isTrue_or (thn (ha pins s σ H _ I h) fun c s1 ⟨H1, I1, q1⟩ => ?_)
  cases c with
  | true => exact ⟨H1, I1, q1⟩
  | false => exact hb wh pins s1 σ H1 Q I1 q1
theorem pt_not (ha : PT X a tA) : PT X (.UnaryOp .Not a pos) (tNot tA) := by
  intro pins s σ H Q I h
  exact isTrue_not (ha pins s σ H (fun c H1 => Q (!c) H1) I h)
def tAndV (ta tb : TE) : TE := fun σ H Q => ta σ H fun x H1 => ∃ c, x = .bl c ∧ if c = true then tb σ H1 Q else Q (.bl false) H1
theorem pe_one {op} {t : TE} (h : PE X a t) : PE X (.BoolOp op [a] pos) t := fun pins s σ H Q I hw => BoolOp_one (h pins s σ H Q I hw)
theorem pe_and (ha : PE X a ta) (hb : PE X (.BoolOp .And (b :: rest) pos) tb) : PE X (.BoolOp .And (a :: b :: rest) pos) (tAndV ta tb) := by
  intro pins s σ H Q I h
  refine BoolOp_and (thn (ha pins s σ H _ I h) fun v s1 ⟨x, H1, I1, r1, q1⟩ => ?_)
  obtain ⟨c, rfl, q1⟩ := q1
  cases r1
  refine wpAny_truthy_bool ?_
  cases c with
  | true => exact hb pins s1 σ H1 Q I1 q1
  | false => exact ⟨.bl false, H1, I1, rfl, q1⟩
end
end L2
namespace L2
open PySem PySem.Spec PyProof.Rows
def SqL (K : PySem.W.Frag) (H : Hp) (a : Addr) (xs : List V) : Prop :=
  Rd H a (.lst xs) ∨
    ∃ (o : Obj) (its : Array Value) (n : Nat), K.lookup a = some o ∧ o.cls = .type "list" ∧ o.dict = none ∧ o.data = .seq its n ∧ its.size ≤ sizeLine ∧ Vals xs its.toList
def SqT (K : PySem.W.Frag) (H : Hp) (a : Addr) (xs : List V) : Prop :=
  Rd H a (.tup xs) ∨
    ∃ (o : Obj) (its : Array Value) (n : Nat), K.lookup a = some o ∧ o.cls = .type "tuple" ∧ o.data = .seq its n ∧ its.size ≤ sizeLine ∧ Vals xs its.toList
def absV : Value → Option V
  | .none => some .non
  | .bool b => some (.bl b)
  | .int i _ => some (.int i)
  | .str x _ => some (.str x)
  | .bytes b _ => some (.byt b)
  | .float b _ => some (.flt b)
  | .ref a => some (.ref a)
  | .type n => some (.ty n)
  | _ => none
theorem RelV.abs {x : V} {u : Value} (r : RelV x u) : absV u = some x := by
  cases x with
  | non => cases r; rfl
  | bl _ => cases r; rfl
  | int _ => obtain ⟨t, rfl⟩ := r; rfl
  | str _ => obtain ⟨t, rfl⟩ := r; rfl
  | byt _ => obtain ⟨t, rfl⟩ := r; rfl
  | flt _ => obtain ⟨t, rfl⟩ := r; rfl
  | ref _ => cases r; rfl
  | ty _ => cases r; rfl
theorem RelV.inj {x y : V} {u : Value} (r : RelV x u) (q : RelV y u) : x = y := Option.some.inj (r.abs.symm.trans q.abs)
theorem Vals.inj : ∀ {xs ys : List V} {us : List Value}, Vals xs us → Vals ys us → xs = ys
  | _, _, _, .nil, .nil => rfl
  | _, _, _, .cons r t, .cons r' t' => by rw [r.inj r', Vals.inj t t']
section
variable {X : Cx} {pins : List (Addr × Obj)} {σ : St} {H : Hp} {s : Shared} {a : Addr} {xs ys : List V}
theorem SqL.of {K : PySem.W.Frag} (h : H a = some (.lst xs)) : SqL K H a xs := .inl (.inl h)
theorem SqT.of {K : PySem.W.Frag} (h : H a = some (.tup xs)) : SqT K H a xs := .inl (.inl h)
theorem Inv.list (I : Inv X pins σ H s) (h : SqL X.K H a xs) : ∃ its : List Value, Vals xs its ∧ PlainL s.heap a its.toArray ∧ xs.length ≤ sizeLine := by
  rcases h with h | ⟨o, its, n, hk, hc, hd, hs, hz, r⟩
  · obtain ⟨z, its, n, r, e⟩ := h.ok I.hok
    exact ⟨its, r, ⟨_, n, e, rfl, rfl, rfl⟩, z⟩
  · refine ⟨its.toList, r, ⟨o, n, I.kIn a o hk, hc, hd, by simpa using hs⟩, ?_⟩
    have e := r.length
    simp only [Array.length_toList] at e
    omega
theorem Inv.tuple (I : Inv X pins σ H s) (h : SqT X.K H a xs) : ∃ its : List Value, Vals xs its ∧ IsTup s.heap a its.toArray ∧ xs.length ≤ sizeLine := by
  rcases h with h | ⟨o, its, n, hk, hc, hs, hz, r⟩
  · obtain ⟨z, its, r, p⟩ := h.ok I.hok
    exact ⟨its, r, p, z⟩
  · refine ⟨its.toList, r, ⟨o, I.kIn a o hk, hc, n, by simpa using hs⟩, ?_⟩
    have e := r.length
    simp only [Array.length_toList] at e
    omega
theorem Inv.list_inj (I : Inv X pins σ H s) (h : SqL X.K H a xs) (h' : SqL X.K H a ys) : xs = ys := by
  obtain ⟨its, r, ⟨o, n, e, _, _, d⟩, _⟩ := I.list h
  obtain ⟨its', r', ⟨o', n', e', _, _, d'⟩, _⟩ := I.list h'
  rw [e] at e'; cases e'
  rw [d] at d'
  injection d' with d1 _
  have : its = its' := by simpa using congrArg Array.toList d1
  subst this
  exact r.inj r'
theorem Inv.tuple_inj (I : Inv X pins σ H s) (h : SqT X.K H a xs) (h' : SqT X.K H a ys) : xs = ys := by
  obtain ⟨its, r, ⟨o, e, _, n, d⟩, _⟩ := I.tuple h
  obtain ⟨its', r', ⟨o', e', _, n', d'⟩, _⟩ := I.tuple h'
  rw [e] at e'; cases e'
  rw [d] at d'
  injection d' with d1 _
  have : its = its' := by simpa using congrArg Array.toList d1
  subst this
  exact r.inj r'
end
abbrev Cx.wish (X : Cx) (E : Value → Shared → Prop) : Cx := { X with xe := E }
abbrev Cx.nox (X : Cx) : Cx := X.wish fun _ _ => False
theorem Cx.Ok.wish {X : Cx} (ok : X.Ok) (E : Value → Shared → Prop) : (X.wish E).Ok :=
  ⟨ok.mod, ok.kind, ok.glob, ok.blt, ok.above, ok.inj, ok.has, ok.cab, ok.hd, ok.frames, ok.stk, ok.exf, ok.bs, ok.bsz, ok.noex, ok.exfs, ok.funs, ok.frf⟩
theorem Cx.Ok.unwish {X : Cx} {E : Value → Shared → Prop} (ok : (X.wish E).Ok) : X.Ok :=
  ⟨ok.mod, ok.kind, ok.glob, ok.blt, ok.above, ok.inj, ok.has, ok.cab, ok.hd, ok.frames, ok.stk, ok.exf, ok.bs, ok.bsz, ok.noex, ok.exfs, ok.funs, ok.frf⟩
section
variable {X : Cx} {pins : List (Addr × Obj)} {σ : St} {H : Hp} {s : Shared} {E : Value → Shared → Prop}
theorem Inv.wish (I : Inv X pins σ H s) (E : Value → Shared → Prop) : Inv (X.wish E) pins σ H s := ⟨I.ok.wish E, I.os, I.bare, I.base, I.loc, I.cell, I.free, I.freeC, I.pin, I.hok, I.len⟩
theorem Inv.unwish (I : Inv (X.wish E) pins σ H s) : Inv X pins σ H s := ⟨I.ok.unwish, I.os, I.bare, I.base, I.loc, I.cell, I.free, I.freeC, I.pin, I.hok, I.len⟩
theorem SP.unwish {D : Ends} {f : Flow} {s' : Shared} (h : SP (X.wish E) pins D f s') : SP X pins D f s' := by
  cases f with
  | next => obtain ⟨σ', H', I, q⟩ := h; exact ⟨σ', H', I.unwish, q⟩
  | brk => obtain ⟨σ', H', I, q⟩ := h; exact ⟨σ', H', I.unwish, q⟩
  | cont => obtain ⟨σ', H', I, q⟩ := h; exact ⟨σ', H', I.unwish, q⟩
  | ret u => obtain ⟨v, σ', H', I, r, q⟩ := h; exact ⟨v, σ', H', I.unwish, r, q⟩
theorem PSs.nox {st : List Stmt} {t : TS} (h : PSs X.nox st t) : PSs X st t := fun pins s σ H D I hw =>
  wpAny_mono (h pins s σ H D (I.wish _) hw) (fun _ _ q => q.unwish) fun _ _ z => False.elim z
end
section
variable {X : Cx} {st : Stmt} {rest : List Stmt} {t u : TS} {e : Expr} {te : TE} {pos : Pos}
def tNext : TS := fun D σ H => D.nx σ H
def tSeq (t u : TS) : TS := fun D σ H => t { D with nx := u D } σ H
theorem pss_nil : PSs X [] tNext := fun _ _ σ H _ I h => wpAny_execs_nil ⟨σ, H, I, h⟩
theorem pss_cons (h1 : PS X st t) (h2 : PSs X rest u) : PSs X (st :: rest) (tSeq t u) := by
  intro pins s σ H D I h
  refine wpAny_execs_cons (thn (h1 pins s σ H { D with nx := u D } I h) fun f s1 q => ?_)
  cases f with
  | next =>
    obtain ⟨σ', H', I', q⟩ := q
    exact h2 pins s1 σ' H' D I' q
  | ret v => exact q
  | brk => exact q
  | cont => exact q
theorem pss_one (h1 : PS X st t) : PSs X [st] t := by
  intro pins s σ H D I h
  refine wpAny_execs_cons (thn (h1 pins s σ H D I h) fun f s1 q => ?_)
  cases f with
  | next => exact wpAny_execs_nil q
  | ret v => exact q
  | brk => exact q
  | cont => exact q
theorem Inv.quiet {pins : List (Addr × Obj)} {σ : St} {H : Hp} {s : Shared} (I : Inv X pins σ H s) : interactive X.env = false := by simp [interactive, I.ok.kind]
def tDrop (te : TE) : TS := fun D σ H => te σ H fun _ H1 => D.nx σ H1
theorem ps_expr (he : PE X e te) (hs : swapsWith e none pos.line X.env = pure false := by rfl) : PS X (.Expr e pos) (tDrop te) := by
  intro pins s σ H D I h
  exact wpAny_Expr_any (thn (he pins s σ H _ I h) fun v s1 ⟨x, H1, I1, r1, q1⟩ => ⟨σ, H1, I1, q1⟩) I.quiet hs
def tRet (te : TE) : TS := fun D σ H => te σ H D.rt
theorem ps_ret (he : PE X e te) : PS X (.Return (some e) pos) (tRet te) := by
  intro pins s σ H D I h
  exact wpAny_Return_some (thn (he pins s σ H _ I h) fun v s1 ⟨x, H1, I1, r1, q1⟩ => ⟨x, σ, H1, I1, r1, q1⟩)
def tIfS (c : TT) (t u : TS) : TS := fun D σ H => c σ H fun b H1 => if b = true then t D σ H1 else u D σ H1
theorem ps_if {c : Expr} {a b : List Stmt} {tc : TT} (hc : PT X c tc) (ha : PSs X a t) (hb : PSs X b u) : PS X (.If c a b pos) (tIfS tc t u) := by
  intro pins s σ H D I h
  refine wpAny_If (thn (hc pins s σ H _ I h) fun d s1 ⟨H1, I1, q1⟩ => ?_)
  cases d with
  | true => exact ha pins s1 σ H1 D I1 q1
  | false => exact hb pins s1 σ H1 D I1 q1
end
abbrev TG := V → St → Hp → (St → Hp → Prop) → Prop
abbrev TGs := List V → St → Hp → (St → Hp → Prop) → Prop
def PG (X : Cx) (target : Expr) (t : TG) : Prop :=
  ∀ (pins : List (Addr × Obj)) (s : Shared) (σ : St) (H : Hp) (v : V) (u : Value) (Q : St → Hp → Prop), Inv X pins σ H s → RelV v u → t v σ H Q →
    wpAny (model X.prog X.w) X.A (assign target X.env u) (fun _ s' => ∃ σ' H', Inv X pins σ' H' s' ∧ Q σ' H') X.xe s
def PGs (X : Cx) (ts : List Expr) (t : TGs) : Prop :=
  ∀ (pins : List (Addr × Obj)) (s : Shared) (σ : St) (H : Hp) (vs : List V) (us : List Value) (Q : St → Hp → Prop), Inv X pins σ H s → Vals vs us → t vs σ H Q →
    wpAny (model X.prog X.w) X.A (assignInOrder ((assignEach ts X.env).map (·.2)) us) (fun _ s' => ∃ σ' H', Inv X pins σ' H' s' ∧ Q σ' H') X.xe s
section
variable {X : Cx} {pos : Pos}
def gName (i : Nat) : TG := fun v σ H Q => Q (σ.set i (some v)) H
theorem pg_name {i : Nat} {x : Str} (hN : X.N.Nodup) (hi : X.N[i]? = some x) (hx : Loc X.env.scope x) (hf : X.fn x = true ∨ X.env.scope.names.lookup x = some .local := by first | exact .inl rfl | exact .inr rfl | assumption) : PG X (.Name x pos) (gName i) := by
  intro pins s σ H v u Q I r h
  exact wpAny_assign_Name (store_ok I hN hi hx r (fun s' I' => ⟨_, H, I', h⟩) hf)
def gNil : TGs := fun vs σ H Q => vs = [] ∧ Q σ H
def gCons (t : TG) (u : TGs) : TGs := fun vs σ H Q => ∃ v r, vs = v :: r ∧ t v σ H fun σ' H' => u r σ' H' Q
theorem pgs_nil : PGs X [] gNil := by
  intro pins s σ H vs us Q I r h
  obtain ⟨e, h⟩ := h
  subst e
  cases r
  exact assignInOrder_nil ⟨σ, H, I, h⟩
theorem pgs_cons {e : Expr} {es : List Expr} {t : TG} {u : TGs} (h1 : PG X e t) (h2 : PGs X es u)
    (hs : (assignEach (e :: es) X.env).map (·.2) = assign e X.env :: (assignEach es X.env).map (·.2) := by rfl) : PGs X (e :: es) (gCons t u) := by
  intro pins s σ H vs us Q I r h
  obtain ⟨v, vr, e1, h⟩ := h
  subst e1
  cases r with
  | cons r rr =>
    rw [hs]
    refine assignInOrder_cons (thn (h1 pins s σ H _ _ _ I r h) fun _ s1 ⟨σ1, H1, I1, q1⟩ => ?_)
    exact h2 pins s1 σ1 H1 _ _ Q I1 rr q1
def gTup (K : PySem.W.Frag) (n : Nat) (t : TGs) : TG := fun v σ H Q => ∃ a xs, v = .ref a ∧ SqT K H a xs ∧ xs.length = n ∧ t xs σ H Q
theorem pg_tup {es : List Expr} {k : Nat} {t : TGs} {n : Nat} (hc : X.calm = true) (h : PGs X es t)
    (hn : (assignEach es X.env).length = n := by rfl) (hst : (assignEach es X.env).findIdx? (·.1) = none := by rfl) : PG X (.Tuple es k pos) (gTup X.K n t) := by
  intro pins s σ H v u Q I r hw
  obtain ⟨a, xs, e1, hq, hl, hw⟩ := hw
  subst e1
  cases r
  obtain ⟨its, rv, ht, hz⟩ := I.tuple hq
  refine assign_Tuple_tuple (I.ok.hd hc) ht (by simp [hn, ← hl, rv.length]) hst fun h' hx => ?_
  have I1 : Inv X pins σ H { s with heap := h' } := I.kept (t' := s.toks) fun b o e => hx b o (Nat.ne_of_lt (Heap.lt_size e)) e
  exact h pins _ σ H xs _ Q I1 (by simpa using rv) hw
def tAsg (te : TE) (g : TG) : TS := fun D σ H => te σ H fun x H1 => g x σ H1 D.nx
theorem ps_set {i : Nat} {x : Str} {e : Expr} {te : TE} {pos' : Pos} (hN : X.N.Nodup) (hi : X.N[i]? = some x) (hx : Loc X.env.scope x) (he : PE X e te) (hs : swapsWith e (some (.Name x pos')) pos.line X.env = pure false := by rfl) (hf : X.fn x = true ∨ X.env.scope.names.lookup x = some .local := by first | exact .inl rfl | exact .inr rfl | assumption) :
    PS X (.Assign [.Name x pos'] e pos) (tAsg te (gName i)) := by
  intro pins s σ H D I h
  refine wpAny_Assign_Name (thn (he pins s σ H _ I h) fun v s1 ⟨y, H1, I1, r1, q1⟩ => ?_) hs
  exact store_ok I1 hN hi hx r1 (fun s2 I2 => ⟨_, H1, I2, q1⟩) hf
end
section
variable {X : Cx} {pos : Pos}
def tWhile (c : TT) (tb : TS) : TS := fun D σ H => ∃ W : Nat → St → Hp → Prop, (∃ m, W m σ H) ∧ ∀ m σ H, W m σ H →
  c σ H fun b H1 => if b = true then ∃ N : St → Hp → Prop, (∀ σ' H', N σ' H' → ∃ m', m' < m ∧ W m' σ' H') ∧ tb { D with nx := N, ct := N, bk := D.nx } σ H1 else D.nx σ H1
theorem ps_while {c : Expr} {body : List Stmt} {tc : TT} {tb : TS} (hp : PassesOwn (model X.prog X.w) X.A X.env X.xe) (hc : PT X c tc) (hb : PSs X body tb) : PS X (.While c body [] pos) (tWhile tc tb) := by
  intro pins s σ H D I h
  obtain ⟨W, ⟨m0, w0⟩, turn⟩ := h
  refine wpAny_While (codeAny_whileLoop (fun n s' => ∃ σ' H', Inv X pins σ' H' s' ∧ W n σ' H') ?_ m0 ⟨σ, H, I, w0⟩)
  rintro n s1 ⟨σ1, H1, I1, w1⟩
  refine wpAny_passesOwn hp (thn (hc pins s1 σ1 H1 _ I1 (turn n σ1 H1 w1)) fun b s2 ⟨H2, I2, q2⟩ => ?_)
  cases b with
  | true =>
    obtain ⟨N, hN, q2⟩ := q2
    rw [if_pos rfl]
    refine wpAny_passesOwn hp (thn (hb pins s2 σ1 H2 _ I2 q2) fun f s3 q3 => ?_)
    cases f with
    | next =>
      obtain ⟨σ3, H3, I3, n3⟩ := q3
      obtain ⟨m', hm, w3⟩ := hN σ3 H3 n3
      exact ⟨m', hm, σ3, H3, I3, w3⟩
    | cont =>
      obtain ⟨σ3, H3, I3, n3⟩ := q3
      obtain ⟨m', hm, w3⟩ := hN σ3 H3 n3
      exact ⟨m', hm, σ3, H3, I3, w3⟩
    | brk => exact q3
    | ret v => exact q3
  | false =>
    rw [if_neg Bool.false_ne_true]
    exact wpAny_execs_nil ⟨σ1, H2, I2, q2⟩
end
structure It where
  go : Nat → Hp → Prop
  yld : Nat → Hp → V → Hp → Prop
  stop : Nat → Hp → Prop
def FpOk (X : Cx) (pins : List (Addr × Obj)) (H : Hp) (b : Addr) : Prop :=
  H b = none ∧ b ≠ X.env.locals ∧ b ∉ X.fs ∧ (b ∈ X.ex ∨ X.s_0.heap.objs.size ≤ b) ∧ (∀ x c, X.env.cells.lookup x = some c → c ≠ b) ∧ ∀ p ∈ X.pn ++ pins, p.1 ≠ b
theorem Inv.fpOk {X : Cx} {pins : List (Addr × Obj)} {σ : St} {H H' : Hp} {s : Shared} {b : Addr} (I : Inv X pins σ H s) (hb : s.heap.objs.size ≤ b) (hn : H' b = none) : FpOk X pins H' b := by
  refine ⟨hn, Nat.ne_of_gt (Nat.lt_of_lt_of_le I.lt hb), I.nofs hb, .inr (Nat.le_trans I.sz hb), fun x c e z => ?_, fun p hp z => ?_⟩
  · obtain ⟨v, q⟩ := I.cell x c e
    exact absurd (Nat.lt_of_lt_of_le q.lt (by rw [z]; exact hb)) (Nat.lt_irrefl _)
  · exact absurd (Nat.lt_of_lt_of_le (Heap.lt_size (I.pin p hp).1) (by rw [z]; exact hb)) (Nat.lt_irrefl _)
structure Turn (P : Program) (w : World) (K : PySem.W.Frag) (tg : Expr) (J : It) (fp : List Addr) (it : Addr) (tn : Nat → Heap → Prop) : Prop where
  mem : it ∈ fp
  obj : ∀ i h, tn i h → ∀ b ∈ fp, ∃ o, h.get? b = some o ∧ ∀ v, o.data ≠ .cell v
  keep : ∀ i h h', tn i h → (∀ b ∈ fp, ∀ o, h.get? b = some o → h'.get? b = some o) → tn i h'
  item : ∀ (X : Cx), X.prog = P → X.w = w → X.K = K → X.calm = true → ∀ (i : Nat) (pins : List (Addr × Obj)) (s : Shared) (σ : St) (H : Hp) (E : Value → Shared → Prop), Inv X pins σ H s → (∀ b ∈ fp, FpOk X pins H b) → tn i s.heap → J.go i H →
    wpAny (model P w) X.A (pyNext (.ref it)) (fun r s1 => ∃ u, r = some u ∧
      wpAny (model P w) X.A (letOwnedTupleGo tg (.ref it) u) (fun _ s2 => ∃ x H', Inv X pins σ H' s2 ∧ RelV x u ∧ J.yld i H x H' ∧ tn (i + 1) s2.heap ∧ ∀ b ∈ fp, H' b = none) E s1) E s
  done : ∀ (X : Cx), X.prog = P → X.w = w → X.K = K → X.calm = true → ∀ (i : Nat) (pins : List (Addr × Obj)) (s : Shared) (σ : St) (H : Hp) (E : Value → Shared → Prop), Inv X pins σ H s → (∀ b ∈ fp, FpOk X pins H b) → tn i s.heap → J.stop i H →
    wpAny (model P w) X.A (pyNext (.ref it)) (fun r s1 => r = none ∧ Inv X pins σ H s1) E s
  self : ∀ (A : Around) (i : Nat) (s : Shared) (Q : Value → Shared → Prop) (E : Value → Shared → Prop), tn i s.heap → Q (.ref it) s → wpAny (model P w) A (pyIter (.ref it)) Q E s
abbrev TI := St → Hp → (It → Hp → Prop) → Prop
def PIE (X : Cx) (pins : List (Addr × Obj)) (σ : St) (tg : Expr) (R : It → Hp → Prop) (itv : Value) (s2 : Shared) : Prop :=
  ∃ (it : Addr) (fp : List Addr) (tn : Nat → Heap → Prop) (J : It) (H' : Hp), itv = .ref it ∧ Inv X pins σ H' s2 ∧ Turn X.prog X.w X.K tg J fp it tn ∧ tn 0 s2.heap ∧ (∀ b ∈ fp, FpOk X pins H' b) ∧ R J H'
def PI (X : Cx) (tg iter : Expr) (wi : TI) : Prop :=
  ∀ (pins : List (Addr × Obj)) (s : Shared) (σ : St) (H : Hp) (R : It → Hp → Prop), Inv X pins σ H s → wi σ H R →
    wpAny (model X.prog X.w) X.A (eval iter X.env) (fun v s1 => wpAny (model X.prog X.w) X.A (pyIter v) (PIE X pins σ tg R) X.xe s1) X.xe s
theorem go_of {M : Model} {A : Around} {E : Value → Shared → Prop} {s : Shared} {tg : Expr} {it : Addr} {u : Value} {o : Obj} {n : String} {vs : Array Value} {Q : Unit → Shared → Prop} (ho : s.heap.get? it = some o) (hc : o.cls = .type n) (hd : o.data = .fields vs)
    (hn : ["enumerate", "zip", "dict_itemiterator", "dict_reverseitemiterator", "odict_iterator", "itertools.zip_longest", "itertools.pairwise"].contains n = false) (hQ : Q () s) : wpAny M A (letOwnedTupleGo tg (.ref it) u) Q E s := by
  unfold letOwnedTupleGo
  cases tg <;> first
    | exact wpAny_pure hQ
    | (cases u <;> first
        | exact wpAny_pure hQ
        | (refine wpAny_bind (wpAny_load ho ?_)
           rw [hc, hd]
           show wpAny M A (if (["enumerate", "zip", "dict_itemiterator", "dict_reverseitemiterator", "odict_iterator", "itertools.zip_longest", "itertools.pairwise"].contains n && vs[0]? == some (rawInt _)) = true then _ else _) Q E s
           rw [if_neg (by intro h; rw [hn, Bool.false_and] at h; cases h)]
           exact wpAny_pure hQ))
def Itl (K : PySem.W.Frag) (a : Addr) : It :=
  ⟨fun i H => ∃ xs x, SqL K H a xs ∧ xs[i]? = some x, fun i H x H' => H' = H ∧ ∀ xs, SqL K H a xs → xs[i]? = some x, fun i H => ∃ xs, SqL K H a xs ∧ xs.length ≤ i⟩
def Itt (K : PySem.W.Frag) (a : Addr) : It :=
  ⟨fun i H => ∃ xs x, SqT K H a xs ∧ xs[i]? = some x, fun i H x H' => H' = H ∧ ∀ xs, SqT K H a xs → xs[i]? = some x, fun i H => ∃ xs, SqT K H a xs ∧ xs.length ≤ i⟩
def Itr (lo : Int) (n : Nat) : It := ⟨fun i _ => i < n, fun i H x H' => H' = H ∧ x = .int (lo + i), fun i _ => n ≤ i⟩
theorem turn_list {P : Program} {w : World} {K : PySem.W.Frag} {tg : Expr} (a it : Addr) : Turn P w K tg (Itl K a) [it] it (fun i h => h.IsListIter it a i) where
  mem := by simp
  obj := fun i h st b hb => by
    have e : b = it := by simpa using hb
    subst e
    obtain ⟨o, e, c, d⟩ := st
    exact ⟨o, e, fun v z => by rw [d] at z; cases z⟩
  keep := fun i h h' st k => st.at fun o e => k it (by simp) o e
  item := by
    intro X hP hw hK hc i pins s σ H E I hf st hg
    subst hP hw hK
    obtain ⟨xs, x, hq, hx⟩ := hg
    obtain ⟨its, rv, p, hz⟩ := I.list hq
    obtain ⟨u, hu, ru⟩ := rv.get hx
    obtain ⟨f0, f1, f2, f3, f4, f5⟩ := hf it (by simp)
    refine wpAny_pyNext_list_item st p.isList (x := u) (by simpa using hu) fun h' st' sb => ?_
    have I1 : Inv X pins σ H { s with heap := h' } := I.turned (t' := s.toks) (fun b o hb e => (sb.2 b hb).trans e) f0 f1 f3 f4 f5
    obtain ⟨o, e, c, d⟩ := id st'
    exact ⟨u, rfl, go_of (s := { s with heap := h' }) e c d (by decide) ⟨x, H, I1, ru, ⟨rfl, fun ys hy => by rw [I.list_inj hy hq]; exact hx⟩, st', fun b hb => (hf b hb).1⟩⟩
  done := by
    intro X hP hw hK hc i pins s σ H E I hf st hg
    subst hP hw hK
    obtain ⟨xs, hq, hx⟩ := hg
    obtain ⟨its, rv, p, hz⟩ := I.list hq
    obtain ⟨f0, f1, f2, f3, f4, f5⟩ := hf it (by simp)
    have hl := rv.length
    exact wpAny_pyNext_list_end (I.ok.hd hc) st p.isList (by simp; omega) fun h' eb => ⟨rfl, I.turned (t' := s.toks) (fun b o hb e => eb b o hb e) f0 f1 f3 f4 f5⟩
  self := fun _ _ _ _ _ st h => wpAny_pyIter_listiter st h
theorem turn_tuple {P : Program} {w : World} {K : PySem.W.Frag} {tg : Expr} (a it : Addr) : Turn P w K tg (Itt K a) [it] it (fun i h => h.IsTupleIter it a i) where
  mem := by simp
  obj := fun i h st b hb => by
    have e : b = it := by simpa using hb
    subst e
    obtain ⟨o, e, c, d⟩ := st
    exact ⟨o, e, fun v z => by rw [d] at z; cases z⟩
  keep := fun i h h' st k => st.at fun o e => k it (by simp) o e
  item := by
    intro X hP hw hK hc i pins s σ H E I hf st hg
    subst hP hw hK
    obtain ⟨xs, x, hq, hx⟩ := hg
    obtain ⟨its, rv, p, hz⟩ := I.tuple hq
    obtain ⟨u, hu, ru⟩ := rv.get hx
    obtain ⟨f0, f1, f2, f3, f4, f5⟩ := hf it (by simp)
    refine wpAny_pyNext_tuple_item st (show s.heap.IsTuple a its.toArray from p) (x := u) (by simpa using hu) fun h' st' sb => ?_
    have I1 : Inv X pins σ H { s with heap := h' } := I.turned (t' := s.toks) (fun b o hb e => (sb.2 b hb).trans e) f0 f1 f3 f4 f5
    obtain ⟨o, e, c, d⟩ := id st'
    exact ⟨u, rfl, go_of (s := { s with heap := h' }) e c d (by decide) ⟨x, H, I1, ru, ⟨rfl, fun ys hy => by rw [I.tuple_inj hy hq]; exact hx⟩, st', fun b hb => (hf b hb).1⟩⟩
  done := by
    intro X hP hw hK hc i pins s σ H E I hf st hg
    subst hP hw hK
    obtain ⟨xs, hq, hx⟩ := hg
    obtain ⟨its, rv, p, hz⟩ := I.tuple hq
    obtain ⟨f0, f1, f2, f3, f4, f5⟩ := hf it (by simp)
    have hl := rv.length
    exact wpAny_pyNext_tuple_end (I.ok.hd hc) st (show s.heap.IsTuple a its.toArray from p) (by simp; omega) fun h' eb => ⟨rfl, I.turned (t' := s.toks) (fun b o hb e => eb b o hb e) f0 f1 f3 f4 f5⟩
  self := fun _ _ _ _ _ st h => wpAny_pyIter_tupleiter st h
theorem turn_range {P : Program} {w : World} {K : PySem.W.Frag} {tg : Expr} (it : Addr) (lo : Int) (n : Nat) : Turn P w K tg (Itr lo n) [it] it (fun i h => IsRangeIter h it (lo + (i : Nat) * 1) ((n : Int) - (i : Nat)) 1) where
  mem := by simp
  obj := fun i h st b hb => by
    have e : b = it := by simpa using hb
    subst e
    exact ⟨_, st, fun v z => by
      have z' : Data.fields _ = Data.cell v := z
      cases z'⟩
  keep := fun i h h' st k => k it (by simp) _ st
  item := by
    intro X hP hw hK hc i pins s σ H E I hf st hg
    subst hP hw hK
    obtain ⟨f0, f1, f2, f3, f4, f5⟩ := hf it (by simp)
    have W := Walks.range (prog := X.prog) (w := X.w) (I.ok.hd hc) it lo 1 n
    refine W.item i s _ _ hg st fun v h' tk hv st' kk => ?_
    obtain ⟨t, rfl⟩ := hv
    have I1 : Inv X pins σ H { s with heap := h', toks := tk } := I.turned (fun b o hb e => kk b o (by simpa using hb) e) f0 f1 f3 f4 f5
    refine ⟨_, rfl, go_of (s := { s with heap := h', toks := tk }) (n := "range_iterator") st' rfl rfl (by decide) ⟨.int (lo + i), H, I1, ⟨t, ?_⟩, ⟨rfl, rfl⟩, st', fun b hb => (hf b hb).1⟩⟩
    rw [Int.mul_one]
  done := by
    intro X hP hw hK hc i pins s σ H E I hf st hg
    subst hP hw hK
    obtain ⟨f0, f1, f2, f3, f4, f5⟩ := hf it (by simp)
    exact wpAny_pyNext_range_end (I.ok.hd hc) st (by have : n ≤ i := hg; omega) fun h' eb => ⟨rfl, I.turned (t' := s.toks) (fun b o hb e => eb b o hb e) f0 f1 f3 f4 f5⟩
  self := fun _ _ _ _ _ st h => wpAny_pyIter_rangeiter st h
end L2
namespace L2
open PySem PySem.Spec PyProof.Rows
section
variable {X : Cx} {tg : Expr}
def iList (K : PySem.W.Frag) (tl : TE) : TI := fun σ H R => tl σ H fun x H1 => ∃ a, x = .ref a ∧ (∃ xs, SqL K H1 a xs) ∧ R (Itl K a) H1
def iTup (K : PySem.W.Frag) (tl : TE) : TI := fun σ H R => tl σ H fun x H1 => ∃ a, x = .ref a ∧ (∃ xs, SqT K H1 a xs) ∧ R (Itt K a) H1
theorem pi_list {l : Expr} {tl : TE} (hl : PE X l tl) : PI X tg l (iList X.K tl) := by
  intro pins s σ H R I h
  refine thn (hl pins s σ H _ I h) fun v s1 ⟨x, H1, I1, r1, q1⟩ => ?_
  obtain ⟨a, e, ⟨xs, hq⟩, q⟩ := q1
  subst e
  cases r1
  obtain ⟨its, rv, p, hz⟩ := I1.list hq
  refine wpAny_pyIter_list p.isList ?_
  refine ⟨s1.heap.objs.size, [s1.heap.objs.size], _, _, H1, rfl, I1.kept (t' := s1.toks) fun b o e => Heap.get?_push_of_some _ e, turn_list a _, ⟨_, Heap.get?_push_size _ rfl, rfl, rfl⟩, fun b hb => ?_, q⟩
  have e : b = s1.heap.objs.size := by simpa using hb
  subst e
  exact I1.fpOk (Nat.le_refl _) (I1.hok.fresh (Nat.le_refl _))
theorem pi_tup {l : Expr} {tl : TE} (hl : PE X l tl) : PI X tg l (iTup X.K tl) := by
  intro pins s σ H R I h
  refine thn (hl pins s σ H _ I h) fun v s1 ⟨x, H1, I1, r1, q1⟩ => ?_
  obtain ⟨a, e, ⟨xs, hq⟩, q⟩ := q1
  subst e
  cases r1
  obtain ⟨its, rv, p, hz⟩ := I1.tuple hq
  refine wpAny_pyIter_tuple (show s1.heap.IsTuple a its.toArray from p) ?_
  refine ⟨s1.heap.objs.size, [s1.heap.objs.size], _, _, H1, rfl, I1.kept (t' := s1.toks) fun b o e => Heap.get?_push_of_some _ e, turn_tuple a _, ⟨_, Heap.get?_push_size _ rfl, rfl, rfl⟩, fun b hb => ?_, q⟩
  have e : b = s1.heap.objs.size := by simpa using hb
  subst e
  exact I1.fpOk (Nat.le_refl _) (I1.hok.fresh (Nat.le_refl _))
theorem range_it {pins : List (Addr × Obj)} {σ : St} {H : Hp} {s : Shared} {R : It → Hp → Prop} {E : Value → Shared → Prop} {lo hi : Int} {t u v : Tok} {tk : Nat} (I : Inv X pins σ H s) (h1 : -(2 ^ 62) ≤ lo) (h2 : lo < 2 ^ 62) (h3 : -(2 ^ 62) ≤ hi) (h4 : hi < 2 ^ 62)
    (q : R (Itr lo (hi - lo).toNat) H) : wpAny (model X.prog X.w) X.A (pyIter (.ref s.heap.objs.size)) (PIE X pins σ tg R) E { s with heap := s.heap.push { cls := .type "range", data := .fields #[.int lo t, .int hi u, .int 1 v] }, toks := tk } := by
  refine wpAny_pyIter_range (IsRange.new ..) (small_one h1 h2 h3 h4) ?_
  have I1 : Inv X pins σ H { s with heap := s.heap.push { cls := .type "range", data := .fields #[.int lo t, .int hi u, .int 1 v] }, toks := tk } := I.kept fun b o e => Heap.get?_push_of_some _ e
  refine ⟨(s.heap.push { cls := .type "range", data := .fields #[.int lo t, .int hi u, .int 1 v] }).objs.size, [(s.heap.push { cls := .type "range", data := .fields #[.int lo t, .int hi u, .int 1 v] }).objs.size], _, _, H, rfl,
    I1.kept (t' := tk) fun b o e => Heap.get?_push_of_some _ e, turn_range _ lo (hi - lo).toNat, ?_, fun b hb => ?_, q⟩
  · have e1 : lo + ((0 : Nat) : Int) * 1 = lo := by simp
    have e2 : (((hi - lo).toNat : Nat) : Int) - ((0 : Nat) : Int) = Builtin.Range.rangeSize lo hi 1 := by rw [rangeSize_one]; split <;> omega
    show IsRangeIter _ _ (lo + ((0 : Nat) : Int) * 1) ((((hi - lo).toNat : Nat) : Int) - ((0 : Nat) : Int)) 1
    rw [e1, e2]
    exact Heap.get?_push_size _ rfl
  · have e : b = (s.heap.push { cls := .type "range", data := .fields #[.int lo t, .int hi u, .int 1 v] }).objs.size := by simpa using hb
    subst e
    exact I1.fpOk (Nat.le_refl _) (I1.hok.fresh (Nat.le_refl _))
def iRng1 (ta : TA) : TI := fun σ H R => ta σ H fun vs H1 => ∃ j : Int, vs = [.int j] ∧ -(2 ^ 62) ≤ j ∧ j < 2 ^ 62 ∧ R (Itr 0 j.toNat) H1
def iRng2 (ta : TA) : TI := fun σ H R => ta σ H fun vs H1 => ∃ i j : Int, vs = [.int i, .int j] ∧ (-(2 ^ 62) ≤ i ∧ i < 2 ^ 62 ∧ -(2 ^ 62) ≤ j ∧ j < 2 ^ 62) ∧ R (Itr i (j - i).toNat) H1
theorem pi_range1 {a : Expr} {ta : TA} {p pos : Pos} (hg : Gl X "range") (hm : X.mg "range" = none) (ha : PA X [a] ta) (hs : starEach [a] X.env = [(false, eval a X.env)] := by rfl) : PI X tg (.Call (.Name "range" p) [a] [] pos) (iRng1 ta) := by
  intro pins s σ H R I h
  refine Call_ (ld_blt I hg hm boot_range (PyProof.Rows.callWith_type1 (thn (ha pos pins s σ H _ I h) fun us s1 ⟨vs, H1, I1, r1, q1⟩ => ?_) hs rfl))
  obtain ⟨j, e, q1, q2, q⟩ := q1
  subst e
  cases r1 with
  | cons r rr =>
    cases rr
    obtain ⟨t, rfl⟩ := r
    exact call_range_1 (range_it I1 (by omega) (by omega) q1 q2 (by simpa using q))
theorem pi_range2 {a b : Expr} {ta : TA} {p pos : Pos} (hg : Gl X "range") (hm : X.mg "range" = none) (ha : PA X [a, b] ta) (hs : starEach [a, b] X.env = [(false, eval a X.env), (false, eval b X.env)] := by rfl) (hs2 : starEach [b] X.env = [(false, eval b X.env)] := by rfl) :
    PI X tg (.Call (.Name "range" p) [a, b] [] pos) (iRng2 ta) := by
  intro pins s σ H R I h
  refine Call_ (ld_blt I hg hm boot_range (PyProof.Rows.callWith_type1 (thn (ha pos pins s σ H _ I h) fun us s1 ⟨vs, H1, I1, r1, q1⟩ => ?_) (by rw [hs, hs2]) (by rw [hs2]; rfl)))
  obtain ⟨i, j, e, ⟨q1, q2, q3, q4⟩, q⟩ := q1
  subst e
  cases r1 with
  | cons r rr =>
    cases rr with
    | cons r' rr =>
      cases rr
      obtain ⟨t, rfl⟩ := r
      obtain ⟨t', rfl⟩ := r'
      exact call_range_2 (range_it I1 q1 q2 q3 q4 q)
def tFor (wi : TI) (g : TG) (tb : TS) : TS := fun D σ H => wi σ H fun J H1 => ∃ W : Nat → Nat → St → Hp → Prop, (∃ m, W 0 m σ H1) ∧ ∀ i m σ H, W i m σ H →
  (J.stop i H ∧ D.nx σ H) ∨ (J.go i H ∧ ∃ N : St → Hp → Prop, (∀ σ' H', N σ' H' → ∃ m', m' < m ∧ W (i + 1) m' σ' H') ∧ ∀ x H', J.yld i H x H' → g x σ H' fun σ2 H2 => tb { D with nx := N, ct := N, bk := D.nx } σ2 H2)
def pinsAt (fp : List Addr) (h : Heap) : List (Addr × Obj) := fp.filterMap fun b => (h.get? b).map fun o => (b, o)
theorem mem_pinsAt {fp : List Addr} {h : Heap} {b : Addr} {o : Obj} (hb : b ∈ fp) (e : h.get? b = some o) : (b, o) ∈ pinsAt fp h := List.mem_filterMap.mpr ⟨b, hb, by rw [e]; rfl⟩
theorem of_pinsAt {fp : List Addr} {h : Heap} {p : Addr × Obj} (hp : p ∈ pinsAt fp h) : p.1 ∈ fp ∧ h.get? p.1 = some p.2 := by
  obtain ⟨b, hb, e⟩ := List.mem_filterMap.mp hp
  cases q : h.get? b with
  | none => rw [q] at e; cases e
  | some o =>
    rw [q] at e
    have e' : (b, o) = p := Option.some.inj e
    subst e'
    exact ⟨hb, q⟩
theorem Inv.pinned {pins : List (Addr × Obj)} {σ : St} {H : Hp} {s : Shared} {fp : List Addr} (I : Inv X pins σ H s) (hf : ∀ b ∈ fp, FpOk X pins H b) (ho : ∀ b ∈ fp, ∃ o, s.heap.get? b = some o ∧ ∀ v, o.data ≠ .cell v) : Inv X (pins ++ pinsAt fp s.heap) σ H s :=
  I.pins_of fun p hp => (List.mem_append.mp hp).elim (fun z => I.pin p (List.mem_append_right _ z)) fun z => by
    obtain ⟨hb, e⟩ := of_pinsAt z
    obtain ⟨f0, f1, f2, _⟩ := hf p.1 hb
    obtain ⟨o, e', d⟩ := ho p.1 hb
    rw [e] at e'; cases e'
    exact ⟨e, f0, f1, f2, d⟩
theorem Inv.unpinned {pins pl : List (Addr × Obj)} {σ : St} {H : Hp} {s : Shared} (I : Inv X (pins ++ pl) σ H s) : Inv X pins σ H s := I.pins_of fun p hp => I.pin p (List.mem_append_right _ (List.mem_append_left _ hp))
theorem ps_for {iter : Expr} {body : List Stmt} {wi : TI} {g : TG} {tb : TS} {pos : Pos} (hp : PassesOwn (model X.prog X.w) X.A X.env X.xe) (hc : X.calm = true) (hi : PI X tg iter wi) (hg : PG X tg g) (hb : PSs X body tb)
    (hs : ∀ x, foldedSetIterable iter X.env x = pure x := by intro _; rfl) : PS X (.For tg iter body [] pos) (tFor wi g tb) := by
  intro pins s σ H D I h
  refine wpAny_For (thn (hi pins s σ H _ I h) fun v s1 h1 => thn h1 fun itv s2 h2 => ?_) hs
  obtain ⟨it, fp, tn, J, H2, e, I2, T, st2, f2, W, ⟨m0, w0⟩, turn⟩ := h2
  subst e
  -- what stays true of the iterator's objects through the loop
  have stat : ∀ {H' : Hp}, (∀ b ∈ fp, H' b = none) → ∀ b ∈ fp, FpOk X pins H' b := fun hn b hb => ⟨hn b hb, (f2 b hb).2⟩
  refine codeAny_forLoop_any (fun n s' => ∃ i σ' H', Inv X pins σ' H' s' ∧ tn i s'.heap ∧ (∀ b ∈ fp, H' b = none) ∧ W i n σ' H') ?_ m0 ⟨0, σ, H2, I2, st2, fun b hb => (f2 b hb).1, w0⟩
  rintro n s3 ⟨i, σ3, H3, I3, st3, fr3, w3⟩
  rcases turn i n σ3 H3 w3 with ⟨stop, qn⟩ | ⟨go, N, hN, step⟩
  · refine wpAny_passesOwn hp (thn (T.done X rfl rfl rfl hc i pins s3 σ3 H3 X.xe I3 (stat fr3) st3 stop) fun r s4 ⟨hr, I4⟩ => ?_)
    subst hr
    exact wpAny_execs_nil ⟨σ3, H3, I4, qn⟩
  · refine wpAny_passesOwn hp (thn (T.item X rfl rfl rfl hc i pins s3 σ3 H3 X.xe I3 (stat fr3) st3 go) fun r s4 ⟨u, hr, h4⟩ => ?_)
    subst hr
    refine wpAny_passesOwn hp (thn h4 fun _ s5 ⟨x, H5, I5, r5, y5, st5, fr5⟩ => ?_)
    have I5' := I5.pinned (stat fr5) (T.obj _ _ st5)
    refine wpAny_passesOwn hp (thn (hg _ s5 σ3 H5 x u _ I5' r5 (step x H5 y5)) fun _ s6 ⟨σ6, H6, I6, q6⟩ => ?_)
    refine wpAny_passesOwn hp (thn (hb _ s6 σ6 H6 _ I6 q6) fun f s7 q7 => ?_)
    have again : ∀ {σ7 : St} {H7 : Hp}, Inv X (pins ++ pinsAt fp s5.heap) σ7 H7 s7 → N σ7 H7 → ∃ m, m < n ∧ ∃ i σ' H', Inv X pins σ' H' s7 ∧ tn i s7.heap ∧ (∀ b ∈ fp, H' b = none) ∧ W i m σ' H' := fun {σ7 H7} I7 n7 => by
      obtain ⟨m', hm, w7⟩ := hN σ7 H7 n7
      refine ⟨m', hm, i + 1, σ7, H7, I7.unpinned, T.keep _ _ _ st5 fun b hb o e => (I7.pin (b, o) (List.mem_append_right _ (List.mem_append_right _ (mem_pinsAt hb e)))).1, fun b hb => ?_, w7⟩
      obtain ⟨o, e, d⟩ := T.obj _ _ st5 b hb
      exact (I7.pin (b, o) (List.mem_append_right _ (List.mem_append_right _ (mem_pinsAt hb e)))).2.1
    cases f with
    | next => obtain ⟨σ7, H7, I7, n7⟩ := q7; exact again I7 n7
    | cont => obtain ⟨σ7, H7, I7, n7⟩ := q7; exact again I7 n7
    | brk => obtain ⟨σ7, H7, I7, q7⟩ := q7; exact ⟨σ7, H7, I7.unpinned, q7⟩
    | ret v => obtain ⟨x7, σ7, H7, I7, r7, q7⟩ := q7; exact ⟨x7, σ7, H7, I7.unpinned, r7, q7⟩
end
theorem for_list {K : PySem.W.Frag} {a : Addr} {xs : List V} {g : TG} {tb : TS} {D : Ends} {σ : St} {H : Hp} (Pv : Nat → St → Hp → Prop) (h0 : Pv 0 σ H) (hl : ∀ i σ H, i ≤ xs.length → Pv i σ H → SqL K H a xs)
    (hs : ∀ i x σ H, xs[i]? = some x → Pv i σ H → g x σ H fun σ2 H2 => tb { D with nx := Pv (i + 1), ct := Pv (i + 1), bk := D.nx } σ2 H2) (hd : ∀ σ H, Pv xs.length σ H → D.nx σ H) :
    ∃ W : Nat → Nat → St → Hp → Prop, (∃ m, W 0 m σ H) ∧ ∀ i m σ H, W i m σ H →
      ((Itl K a).stop i H ∧ D.nx σ H) ∨ ((Itl K a).go i H ∧ ∃ N : St → Hp → Prop, (∀ σ' H', N σ' H' → ∃ m', m' < m ∧ W (i + 1) m' σ' H') ∧ ∀ x H', (Itl K a).yld i H x H' → g x σ H' fun σ2 H2 => tb { D with nx := N, ct := N, bk := D.nx } σ2 H2) := by
  refine ⟨fun i m σ H => m = xs.length - i ∧ i ≤ xs.length ∧ Pv i σ H, ⟨xs.length, by simp, Nat.zero_le _, h0⟩, ?_⟩
  rintro i m σ H ⟨rfl, hi, p⟩
  have q := hl i σ H hi p
  by_cases hlt : i < xs.length
  · refine .inr ⟨⟨xs, xs[i], q, by simp [hlt]⟩, Pv (i + 1), fun σ' H' p' => ⟨xs.length - (i + 1), by omega, rfl, hlt, p'⟩, fun x H' y => ?_⟩
    obtain ⟨e, y⟩ := y
    subst e
    exact hs i x σ _ (y xs q) p
  · have e : i = xs.length := by omega
    subst e
    exact .inl ⟨⟨xs, q, Nat.le_refl _⟩, hd σ H p⟩
theorem for_tup {K : PySem.W.Frag} {a : Addr} {xs : List V} {g : TG} {tb : TS} {D : Ends} {σ : St} {H : Hp} (Pv : Nat → St → Hp → Prop) (h0 : Pv 0 σ H) (hl : ∀ i σ H, i ≤ xs.length → Pv i σ H → SqT K H a xs)
    (hs : ∀ i x σ H, xs[i]? = some x → Pv i σ H → g x σ H fun σ2 H2 => tb { D with nx := Pv (i + 1), ct := Pv (i + 1), bk := D.nx } σ2 H2) (hd : ∀ σ H, Pv xs.length σ H → D.nx σ H) :
    ∃ W : Nat → Nat → St → Hp → Prop, (∃ m, W 0 m σ H) ∧ ∀ i m σ H, W i m σ H →
      ((Itt K a).stop i H ∧ D.nx σ H) ∨ ((Itt K a).go i H ∧ ∃ N : St → Hp → Prop, (∀ σ' H', N σ' H' → ∃ m', m' < m ∧ W (i + 1) m' σ' H') ∧ ∀ x H', (Itt K a).yld i H x H' → g x σ H' fun σ2 H2 => tb { D with nx := N, ct := N, bk := D.nx } σ2 H2) := by
  refine ⟨fun i m σ H => m = xs.length - i ∧ i ≤ xs.length ∧ Pv i σ H, ⟨xs.length, by simp, Nat.zero_le _, h0⟩, ?_⟩
  rintro i m σ H ⟨rfl, hi, p⟩
  have q := hl i σ H hi p
  by_cases hlt : i < xs.length
  · refine .inr ⟨⟨xs, xs[i], q, by simp [hlt]⟩, Pv (i + 1), fun σ' H' p' => ⟨xs.length - (i + 1), by omega, rfl, hlt, p'⟩, fun x H' y => ?_⟩
    obtain ⟨e, y⟩ := y
    subst e
    exact hs i x σ _ (y xs q) p
  · have e : i = xs.length := by omega
    subst e
    exact .inl ⟨⟨xs, q, Nat.le_refl _⟩, hd σ H p⟩
theorem for_range {lo : Int} {n : Nat} {g : TG} {tb : TS} {D : Ends} {σ : St} {H : Hp} (Pv : Nat → St → Hp → Prop) (h0 : Pv 0 σ H)
    (hs : ∀ i σ H, i < n → Pv i σ H → g (.int (lo + i)) σ H fun σ2 H2 => tb { D with nx := Pv (i + 1), ct := Pv (i + 1), bk := D.nx } σ2 H2) (hd : ∀ σ H, Pv n σ H → D.nx σ H) :
    ∃ W : Nat → Nat → St → Hp → Prop, (∃ m, W 0 m σ H) ∧ ∀ i m σ H, W i m σ H →
      ((Itr lo n).stop i H ∧ D.nx σ H) ∨ ((Itr lo n).go i H ∧ ∃ N : St → Hp → Prop, (∀ σ' H', N σ' H' → ∃ m', m' < m ∧ W (i + 1) m' σ' H') ∧ ∀ x H', (Itr lo n).yld i H x H' → g x σ H' fun σ2 H2 => tb { D with nx := N, ct := N, bk := D.nx } σ2 H2) := by
  refine ⟨fun i m σ H => m = n - i ∧ i ≤ n ∧ Pv i σ H, ⟨n, by simp, Nat.zero_le _, h0⟩, ?_⟩
  rintro i m σ H ⟨rfl, hi, p⟩
  by_cases hlt : i < n
  · refine .inr ⟨hlt, Pv (i + 1), fun σ' H' p' => ⟨n - (i + 1), by omega, rfl, hlt, p'⟩, fun x H' y => ?_⟩
    obtain ⟨e, y⟩ := y
    subst e y
    exact hs i σ _ hlt p
  · have e : i = n := by omega
    subst e
    exact .inl ⟨Nat.le_refl _, hd σ H p⟩
theorem while_by {c : TT} {tb : TS} {D : Ends} {σ : St} {H : Hp} (Pv : St → Hp → Prop) (μ : St → Hp → Nat) (h0 : Pv σ H)
    (hs : ∀ σ H, Pv σ H → c σ H fun b H1 => if b = true then tb { D with nx := fun σ' H' => Pv σ' H' ∧ μ σ' H' < μ σ H, ct := fun σ' H' => Pv σ' H' ∧ μ σ' H' < μ σ H, bk := D.nx } σ H1 else D.nx σ H1)
    (mono : ∀ σ H Q Q', (∀ b H1, Q b H1 → Q' b H1) → c σ H Q → c σ H Q') : tWhile c tb D σ H := by
  refine ⟨fun m σ H => m = μ σ H ∧ Pv σ H, ⟨_, rfl, h0⟩, ?_⟩
  rintro m σ H ⟨rfl, p⟩
  refine mono σ H _ _ (fun b H1 q => ?_) (hs σ H p)
  cases b with
  | true => exact ⟨_, fun σ' H' ⟨p', l⟩ => ⟨_, l, rfl, p'⟩, q⟩
  | false => exact q
end L2
namespace L2
open PySem PySem.Spec PyProof.Rows
abbrev R2 := V → V → Hp → VK → Prop
def OpR (X : Cx) (f : Value → Value → Sem Value) (r : R2) : Prop :=
  ∀ (pins : List (Addr × Obj)) (s : Shared) (σ : St) (H : Hp) (x y : V) (v u : Value) (Q : VK), Inv X pins σ H s → RelV x v → RelV y u → r x y H Q →
    wpAny (model X.prog X.w) X.A (f v u) (EP X pins σ Q) X.xe s
def UnR (X : Cx) (f : Value → Sem Value) (r : V → Hp → VK → Prop) : Prop :=
  ∀ (pins : List (Addr × Obj)) (s : Shared) (σ : St) (H : Hp) (x : V) (v : Value) (Q : VK), Inv X pins σ H s → RelV x v → r x H Q →
    wpAny (model X.prog X.w) X.A (f v) (EP X pins σ Q) X.xe s
def CallR (X : Cx) (f : Value) (r : List V → Hp → VK → Prop) : Prop :=
  ∀ (pins : List (Addr × Obj)) (s : Shared) (σ : St) (H : Hp) (xs : List V) (us : List Value) (Q : VK), Inv X pins σ H s → Vals xs us → r xs H Q →
    wpAny (model X.prog X.w) X.A (call f us) (EP X pins σ Q) X.xe s
def tOp (r : R2) (ta tb : TE) : TE := fun σ H Q => ta σ H fun x H1 => tb σ H1 fun y H2 => r x y H2 Q
def tUn (r : V → Hp → VK → Prop) (ta : TE) : TE := fun σ H Q => ta σ H fun x H1 => r x H1 Q
def rI (C : Int → Int → Prop) (g : Int → Int → V) : R2 := fun x y H Q => ∃ i j, x = .int i ∧ y = .int j ∧ C i j ∧ Q (g i j) H
def rI0 (g : Int → Int → V) : R2 := fun x y H Q => ∃ i j, x = .int i ∧ y = .int j ∧ Q (g i j) H
def rU (g : Int → V) : V → Hp → VK → Prop := fun x H Q => ∃ i, x = .int i ∧ Q (g i) H
section
variable {X : Cx} {a b c : Expr} {ta tb tc : TE} {pos : Pos}
theorem binT (ha : PE X a ta) (hb : PE X b tb) {pins : List (Addr × Obj)} {s : Shared} {σ : St} {H : Hp} {R : V → V → Hp → Prop} (I : Inv X pins σ H s)
    (h : ta σ H fun x H1 => tb σ H1 fun y H2 => R x y H2) {Q : Value → Shared → Prop} {f : Value → Value → Sem Value}
    (hf : ∀ v u s2 x y H2, Inv X pins σ H2 s2 → RelV x v → RelV y u → R x y H2 → wpAny (model X.prog X.w) X.A (f v u) Q X.xe s2) :
    wpAny (model X.prog X.w) X.A (eval a X.env) (fun v s₁ => wpAny (model X.prog X.w) X.A (eval b X.env) (fun u s₂ => wpAny (model X.prog X.w) X.A (f v u) Q X.xe s₂) X.xe s₁) X.xe s := by
  refine thn (ha pins s σ H _ I h) fun v s1 ⟨x, H1, I1, r1, q1⟩ => ?_
  refine thn (hb pins s1 σ H1 _ I1 q1) fun u s2 ⟨y, H2, I2, r2, q2⟩ => ?_
  exact hf v u s2 x y H2 I2 r1 r2 q2
theorem pe_op {op : Operator} {r : R2} (ho : OpR X (binaryOp op) r) (ha : PE X a ta) (hb : PE X b tb) : PE X (.BinOp a op b pos) (tOp r ta tb) := by
  intro pins s σ H Q I h
  exact wpAny_BinOp (binT ha hb I h fun v u s2 x y H2 I2 rx ry q => ho pins s2 σ H2 x y v u Q I2 rx ry q)
theorem pe_un {op : UnaryOp} {r : V → Hp → VK → Prop} (ho : UnR X (unaryOp op) r) (ha : PE X a ta) : PE X (.UnaryOp op a pos) (tUn r ta) := by
  intro pins s σ H Q I h
  exact UnaryOp_ (thn (ha pins s σ H _ I h) fun v s1 ⟨x, H1, I1, r1, q1⟩ => ho pins s1 σ H1 x v Q I1 r1 q1)
theorem opI {f : Value → Value → Sem Value} {C : Int → Int → Prop} {g : Int → Int → Int}
    (rule : ∀ (i j : Int) (t u : Tok) (s : Shared) (Q : Value → Shared → Prop) (E : Value → Shared → Prop), C i j → Q (.int (g i j) s.toks) { s with toks := s.toks + 1 } → wpAny (model X.prog X.w) X.A (f (.int i t) (.int j u)) Q E s) :
    OpR X f (rI C fun i j => .int (g i j)) := by
  intro pins s σ H x y v u Q I rx ry h
  obtain ⟨i, j, rfl, rfl, hc, q⟩ := h
  obtain ⟨t, rfl⟩ := rx
  obtain ⟨t', rfl⟩ := ry
  exact rule i j t t' s _ _ hc ⟨.int (g i j), H, I.tok _, ⟨_, rfl⟩, q⟩
theorem opI0 {f : Value → Value → Sem Value} {g : Int → Int → Int}
    (rule : ∀ (i j : Int) (t u : Tok) (s : Shared) (Q : Value → Shared → Prop) (E : Value → Shared → Prop), Q (.int (g i j) s.toks) { s with toks := s.toks + 1 } → wpAny (model X.prog X.w) X.A (f (.int i t) (.int j u)) Q E s) :
    OpR X f (rI0 fun i j => .int (g i j)) := by
  intro pins s σ H x y v u Q I rx ry h
  obtain ⟨i, j, rfl, rfl, q⟩ := h
  obtain ⟨t, rfl⟩ := rx
  obtain ⟨t', rfl⟩ := ry
  exact rule i j t t' s _ _ ⟨.int (g i j), H, I.tok _, ⟨_, rfl⟩, q⟩
theorem opB0 {f : Value → Value → Sem Value} {g : Int → Int → Bool}
    (rule : ∀ (i j : Int) (t u : Tok) (s : Shared) (Q : Value → Shared → Prop) (E : Value → Shared → Prop), Q (.bool (g i j)) s → wpAny (model X.prog X.w) X.A (f (.int i t) (.int j u)) Q E s) :
    OpR X f (rI0 fun i j => .bl (g i j)) := by
  intro pins s σ H x y v u Q I rx ry h
  obtain ⟨i, j, rfl, rfl, q⟩ := h
  obtain ⟨t, rfl⟩ := rx
  obtain ⟨t', rfl⟩ := ry
  exact rule i j t t' s _ _ ⟨.bl (g i j), H, I, rfl, q⟩
def CDiv (i j : Int) : Prop := 0 < j ∧ j < 1073741824
def CMul (i j : Int) : Prop := (-(2 ^ 64) < i ∧ i < 2 ^ 64) ∨ (-(2 ^ 64) < j ∧ j < 2 ^ 64)
theorem CMul.ok {i j : Int} (h : CMul i j) : IntMulOk i j := by
  rcases h with ⟨h1, h2⟩ | ⟨h1, h2⟩
  · exact .of_left (intBits_le_64 h1 h2)
  · exact .of_right (intBits_le_64 h1 h2)
theorem op_add : OpR X (binaryOp .Add) (rI0 fun i j => .int (i + j)) := opI0 fun _ _ _ _ _ _ _ q => add_int q
theorem op_sub : OpR X (binaryOp .Sub) (rI0 fun i j => .int (i - j)) := opI0 fun _ _ _ _ _ _ _ q => sub_int q
theorem op_mul : OpR X (binaryOp .Mult) (rI CMul fun i j => .int (i * j)) := opI fun _ _ _ _ _ _ _ hc q => mul_int q hc.ok
theorem op_fdiv : OpR X (binaryOp .FloorDiv) (rI CDiv fun i j => .int (i / j)) := opI fun i j _ _ _ _ _ hc q => by
  have h1 : (0 : Int) < j := hc.1
  have h2 : j < 1073741824 := hc.2
  exact floordiv_int (by omega) (by rw [Int.fdiv_eq_ediv_of_nonneg i (by omega)]; exact q) (.inl (PyProof.noPylong_small (by omega)))
theorem op_mod : OpR X (binaryOp .Mod) (rI (fun _ j => 0 < j) fun i j => .int (i % j)) := opI fun i j _ _ _ _ _ hc q => by
  have h1 : (0 : Int) < j := hc
  exact mod_int' (by omega) (by rw [Int.fmod_eq_emod_of_nonneg i (by omega)]; exact q)
theorem unI {f : Value → Sem Value} {g : Int → Int}
    (rule : ∀ (i : Int) (t : Tok) (s : Shared) (Q : Value → Shared → Prop) (E : Value → Shared → Prop), Q (.int (g i) s.toks) { s with toks := s.toks + 1 } → wpAny (model X.prog X.w) X.A (f (.int i t)) Q E s) :
    UnR X f (rU fun i => .int (g i)) := by
  intro pins s σ H x v Q I rx h
  obtain ⟨i, rfl, q⟩ := h
  obtain ⟨t, rfl⟩ := rx
  exact rule i t s _ _ ⟨.int (g i), H, I.tok _, ⟨_, rfl⟩, q⟩
theorem un_neg : UnR X (unaryOp .USub) (rU fun i => .int (-i)) := unI fun _ _ _ _ _ q => neg_int q
end
def scal : V → V → Bool
  | .non, .non => true | .non, .int _ => true | .int _, .non => true | .non, .bl _ => true | .bl _, .non => true | .non, .str _ => true | .str _, .non => true
  | .int _, .int _ => true | .bl _, .bl _ => true | .str _, .str _ => true | .byt _, .byt _ => true
  | .int _, .str _ => true | .str _, .int _ => true | .bl _, .str _ => true | .str _, .bl _ => true
  | _, _ => false
def rEq : R2 := fun x y H Q => scal x y = true ∧ Q (.bl (decide (x = y))) H
def rNe : R2 := fun x y H Q => scal x y = true ∧ Q (.bl (!decide (x = y))) H
theorem dec_int {i j : Int} : decide (V.int i = V.int j) = (i == j) := by
  rw [Bool.eq_iff_iff]
  simp
theorem dec_bl {i j : Bool} : decide (V.bl i = V.bl j) = (i == j) := by
  rw [Bool.eq_iff_iff]
  simp
theorem dec_str {i j : Str} : decide (V.str i = V.str j) = (i == j) := by
  rw [Bool.eq_iff_iff]
  simp
theorem dec_byt {i j : Array UInt8} : decide (V.byt i = V.byt j) = (i.toList == j.toList) := by
  rw [Bool.eq_iff_iff]
  cases i
  cases j
  simp
section
variable {X : Cx} {a b c : Expr} {ta tb tc : TE} {pos : Pos}
theorem fin_bl {pins : List (Addr × Obj)} {σ : St} {H : Hp} {s : Shared} {Q : VK} {k k' : Bool} (I : Inv X pins σ H s) (q : Q (.bl k) H) (e : k = k') : EP X pins σ Q (.bool k') s := by
  subst e
  exact ⟨.bl k, H, I, rfl, q⟩
theorem op_eq : OpR X (compareOp .Eq) rEq := by
  intro pins s σ H x y v u Q I rx ry h
  obtain ⟨hs, q⟩ := h
  cases x with
  | non =>
    cases rx
    cases y with
    | non => cases ry; exact PySem.EqNone.eq_none_none (fin_bl I q (by simp))
    | bl j => cases ry; exact PySem.EqNone.eq_none_bool (fin_bl I q (by simp))
    | int j => obtain ⟨t', rfl⟩ := ry; exact PySem.EqNone.eq_none_int (fin_bl I q (by simp))
    | str j => obtain ⟨t', rfl⟩ := ry; exact PySem.EqNone.eq_none_str (fin_bl I q (by simp))
    | _ => exact absurd (show false = true from hs) Bool.false_ne_true
  | bl i =>
    cases rx
    cases y with
    | non => cases ry; exact PySem.EqNone.eq_bool_none (fin_bl I q (by simp))
    | bl j => cases ry; exact eq_bool (fin_bl I q dec_bl)
    | str j => obtain ⟨t', rfl⟩ := ry; exact PySem.EqMixed.eq_bool_str (fin_bl I q (by simp))
    | _ => exact absurd (show false = true from hs) Bool.false_ne_true
  | int i =>
    obtain ⟨t, rfl⟩ := rx
    cases y with
    | non => cases ry; exact PySem.EqNone.eq_int_none (fin_bl I q (by simp))
    | int j => obtain ⟨t', rfl⟩ := ry; exact eq_int (fin_bl I q dec_int)
    | str j => obtain ⟨t', rfl⟩ := ry; exact PySem.EqMixed.eq_int_str (fin_bl I q (by simp))
    | _ => exact absurd (show false = true from hs) Bool.false_ne_true
  | str i =>
    obtain ⟨t, rfl⟩ := rx
    cases y with
    | non => cases ry; exact PySem.EqNone.eq_str_none (fin_bl I q (by simp))
    | bl j => cases ry; exact PySem.EqMixed.eq_str_bool (fin_bl I q (by simp))
    | int j => obtain ⟨t', rfl⟩ := ry; exact PySem.EqMixed.eq_str_int (fin_bl I q (by simp))
    | str j => obtain ⟨t', rfl⟩ := ry; exact eq_str (fin_bl I q dec_str)
    | _ => exact absurd (show false = true from hs) Bool.false_ne_true
  | byt i =>
    obtain ⟨t, rfl⟩ := rx
    cases y with
    | byt j => obtain ⟨t', rfl⟩ := ry; exact PySem.W.eq_bytes (fin_bl I q dec_byt)
    | _ => exact absurd (show false = true from hs) Bool.false_ne_true
  | _ => cases y <;> exact absurd (show false = true from hs) Bool.false_ne_true
theorem op_ne : OpR X (compareOp .NotEq) rNe := by
  intro pins s σ H x y v u Q I rx ry h
  obtain ⟨hs, q⟩ := h
  cases x with
  | non =>
    cases rx
    cases y with
    | non => cases ry; exact PySem.EqNone.ne_none_none (fin_bl I q (by simp))
    | bl j => cases ry; exact PySem.EqNone.ne_none_bool (fin_bl I q (by simp))
    | int j => obtain ⟨t', rfl⟩ := ry; exact PySem.EqNone.ne_none_int (fin_bl I q (by simp))
    | str j => obtain ⟨t', rfl⟩ := ry; exact PySem.EqNone.ne_none_str (fin_bl I q (by simp))
    | _ => exact absurd (show false = true from hs) Bool.false_ne_true
  | bl i =>
    cases rx
    cases y with
    | non => cases ry; exact PySem.EqNone.ne_bool_none (fin_bl I q (by simp))
    | bl j => cases ry; exact ne_bool (fin_bl I q (congrArg not dec_bl))
    | str j => obtain ⟨t', rfl⟩ := ry; exact PySem.EqMixed.ne_bool_str (fin_bl I q (by simp))
    | _ => exact absurd (show false = true from hs) Bool.false_ne_true
  | int i =>
    obtain ⟨t, rfl⟩ := rx
    cases y with
    | non => cases ry; exact PySem.EqNone.ne_int_none (fin_bl I q (by simp))
    | int j => obtain ⟨t', rfl⟩ := ry; exact ne_int (fin_bl I q (congrArg not dec_int))
    | str j => obtain ⟨t', rfl⟩ := ry; exact PySem.EqMixed.ne_int_str (fin_bl I q (by simp))
    | _ => exact absurd (show false = true from hs) Bool.false_ne_true
  | str i =>
    obtain ⟨t, rfl⟩ := rx
    cases y with
    | non => cases ry; exact PySem.EqNone.ne_str_none (fin_bl I q (by simp))
    | bl j => cases ry; exact PySem.EqMixed.ne_str_bool (fin_bl I q (by simp))
    | int j => obtain ⟨t', rfl⟩ := ry; exact PySem.EqMixed.ne_str_int (fin_bl I q (by simp))
    | str j => obtain ⟨t', rfl⟩ := ry; exact ne_str (fin_bl I q (congrArg not dec_str))
    | _ => exact absurd (show false = true from hs) Bool.false_ne_true
  | byt i =>
    obtain ⟨t, rfl⟩ := rx
    cases y with
    | byt j => obtain ⟨t', rfl⟩ := ry; exact PySem.W.ne_bytes (fin_bl I q (congrArg not dec_byt))
    | _ => exact absurd (show false = true from hs) Bool.false_ne_true
  | _ => cases y <;> exact absurd (show false = true from hs) Bool.false_ne_true
theorem op_lt : OpR X (compareOp .Lt) (rI0 fun i j => .bl (decide (i < j))) := opB0 fun _ _ _ _ _ _ _ q => lt_int q
theorem op_le : OpR X (compareOp .LtE) (rI0 fun i j => .bl (decide (i ≤ j))) := opB0 fun _ _ _ _ _ _ _ q => le_int q
theorem op_gt : OpR X (compareOp .Gt) (rI0 fun i j => .bl (decide (j < i))) := opB0 fun _ _ _ _ _ _ _ q => gt_int q
theorem op_ge : OpR X (compareOp .GtE) (rI0 fun i j => .bl (decide (j ≤ i))) := opB0 fun _ _ _ _ _ _ _ q => ge_int q
theorem nomark (b : Expr) {op : CmpOp} (h : op ≠ .In := by decide) (h2 : op ≠ .NotIn := by decide) : behindInMarks op b = false := by
  have e1 : (op == CmpOp.In) = false := by cases op <;> first | rfl | exact absurd rfl h
  have e2 : (op == CmpOp.NotIn) = false := by cases op <;> first | rfl | exact absurd rfl h2
  cases b <;> simp [behindInMarks, e1, e2]
theorem pe_cmpR {op : CmpOp} {r : R2} (ho : OpR X (compareOp op) r) (ha : PE X a ta) (hb : PE X b tb) (hm : behindInMarks op b = false) : PE X (.Compare a [op] [b] pos) (tOp r ta tb) := by
  intro pins s σ H Q I h
  exact wpAny_Compare1 (binT ha hb I h fun v u s2 x y H2 I2 rx ry q => ho pins s2 σ H2 x y v u Q I2 rx ry q) hm
def tTest (t : TE) : TT := fun σ H Q => t σ H fun x H' => ∃ k, x = .bl k ∧ Q k H'
theorem pt_cmpR {op : CmpOp} {r : R2} (ho : OpR X (compareOp op) r) (ha : PE X a ta) (hb : PE X b tb) (hm : behindInMarks op b = false) : PT X (.Compare a [op] [b] pos) (tTest (tOp r ta tb)) := by
  intro pins s σ H Q I h
  refine wpAny_isTrue_Compare1 (thn (ha pins s σ H _ I h) fun v s1 ⟨x, H1, I1, r1, q1⟩ => thn (hb pins s1 σ H1 _ I1 q1) fun u s2 ⟨y, H2, I2, r2, q2⟩ =>
    thn (ho pins s2 σ H2 x y v u _ I2 r1 r2 q2) fun c s3 ⟨z, H3, I3, r3, k, e, q3⟩ => ?_) hm
  subst e
  cases r3
  exact wpAny_truthy_bool ⟨H3, I3, q3⟩
theorem line63 : (sizeLine : Nat) < 2 ^ 63 := by rw [sizeLine_eq]; decide
theorem vals1 {x : V} {us : List Value} (r : Vals [x] us) : ∃ u, us = [u] ∧ RelV x u := by
  cases r with
  | cons r1 r2 => cases r2; exact ⟨_, rfl, r1⟩
theorem call_ord : CallR X (.builtin "ord") (fun xs H Q => ∃ x, xs = [.str x] ∧ x.length = 1 ∧ Q (.int (x.cps.getD 0 0 : Nat)) H) := by
  intro pins s σ H xs us Q I r h
  obtain ⟨x, rfl, hz, q⟩ := h
  obtain ⟨u, rfl, t, rfl⟩ := vals1 r
  exact ord_of_one hz ⟨.int _, H, I.tok _, ⟨_, rfl⟩, q⟩
end
end L2
namespace L2
open PySem PySem.Spec PyProof.Rows
structure ObjM (h : Heap) (x dx C : Addr) (mA : Str → Option Value) : Prop where
  obj : h.get? x = some (PySem.W.instObj C dx)
  ns : h.Ns1 dx mA
  ne : dx ≠ x
theorem lookIn_ns {h : Heap} {dx : Addr} {mA : Str → Option Value} (n : h.Ns1 dx mA) : ∃ od, h.get? dx = some od ∧ ∀ name, PySem.W.lookIn name od = some (mA name) := by
  obtain ⟨o, es, ep, ho, hd, hk, _, hm⟩ := n
  refine ⟨o, ho, fun name => ?_⟩
  have e := hm name
  unfold nsFind findBy at e
  rw [← Array.find?_toList] at e
  unfold PySem.W.lookIn
  rw [hd]
  dsimp only
  split
  · rename_i y q
    rw [q] at e
    exact congrArg some e
  · rename_i q
    rw [q] at e
    have a : es.toList.any (·.refKey) = false := by
      rw [List.any_eq_false]
      intro y hy
      obtain ⟨z, t, hkey⟩ := hk y (Array.mem_toList_iff.mp hy)
      simp [DictEntry.refKey, hkey]
    have a' : ¬ es.toList.any (·.refKey) = true := by rw [a]; exact Bool.false_ne_true
    rw [if_neg a']
    exact congrArg some e
theorem ObjM.look {h : Heap} {x dx C : Addr} {mA : Str → Option Value} (I : ObjM h x dx C mA) : ∃ od, PySem.W.InstAt h x (PySem.W.instObj C dx) C (some od) ∧ ∀ name, PySem.W.lookIn name od = some (mA name) :=
  let ⟨od, ho, hl⟩ := lookIn_ns I.ns
  ⟨od, ⟨I.obj, rfl, rfl, ho⟩, hl⟩
section
variable {prog : Program} {w : World} {A : Around} {E : Value → Shared → Prop} {s : Shared} {K : PySem.W.Frag} {x dx C f : Addr} {mA : Str → Option Value} {name : Str} {v : Value}
theorem get_map {expr : Bool} {Q : Value → Shared → Prop} (X : K.In s.heap) (I : ObjM s.heap x dx C mA) (hg : PySem.W.plainGet K C name = true) (hh : PySem.W.hasDictIn K C = true)
    (ha : PySem.W.findIn K (.ref C) name = some none) (hv : mA name = some v) (hv' : PySem.W.handedIn v = true) (h : Q v { s with toks := s.toks + 1 }) :
    wpAny (model prog w) A (getAttr (.ref x) name expr) Q E s := by
  obtain ⟨od, J, hl⟩ := I.look
  exact PySem.W.get_value X J (PySem.W.plainGet_of hg).1 (PySem.W.findObj_own hh ha rfl (by rw [hl, hv])) hv' h
theorem set_map {ns : List Str} {Q : Unit → Shared → Prop} (X : K.In s.heap) (I : ObjM s.heap x dx C mA)
    (hs : PySem.W.findIn K (.ref C) "__setattr__" = some (some (.builtin "object.__setattr__"))) (hp : PySem.W.plainOver K C = true) (ht : PySem.W.takerIn K C name = some none) (hh : PySem.W.hasDictIn K C = true)
    (hw : PySem.Within mA ns) (hsz : ns.length ≤ sizeLine)
    (h : ∀ h', ObjM h' x dx C (fun y => if y = name then some v else mA y) → Heap.SameBut dx s.heap h' → Q () { s with heap := h', toks := s.toks + 2 }) :
    wpAny (model prog w) A (setAttr (.ref x) name v) Q E s := by
  obtain ⟨od, J, hl⟩ := I.look
  refine PySem.W.set_plain X J hs (PySem.W.osa_open (s := { s with toks := s.toks + 1 }) (r := none) X J hp ht fun b => ?_)
  obtain ⟨cd, hc, hd'⟩ := PySem.W.any_some hh
  have hx : s.heap.get? x = some ⟨.ref C, some dx, .plain, #[]⟩ := I.obj
  refine wpAny_bind (wpAny_pure (wpAny_bind (wpAny_bind (wpAny_loadPart hx (wpAny_bind (PySem.W.Looks.here (s := { s with toks := s.toks + 1 }) (PySem.W.looks_clsIn X hc) ?_))))))
  rw [hd']
  refine wpAny_pure (a := some dx) (wpAny_bind (wpAny_pure (wpAny_bind ?_)))
  refine wpAny_nsSet1 (s := { s with toks := s.toks + 1 }) I.ns fun h' hn2 hs2 => ?_
  obtain ⟨oD, esD, epD, hoD, hdD, hcD⟩ := hn2.count (PySem.Within.cons name v hw)
  refine wpAny_bind (wpAny_lookBehind hoD (by rw [hdD]; exact pastItsLine_dict (Nat.le_trans hcD (by rw [List.length_cons]; omega))) ?_)
  exact wpAny_pure (h _ ⟨(hs2.2 _ (Ne.symm I.ne)).trans I.obj, hn2, I.ne⟩ hs2)
theorem make_map {R : Result → Shared → Prop} {vs : List Value} {kw : List (Str × Value)} (X : K.In s.heap) (hm : PySem.W.makesIn K C = true)
    (hi : PySem.W.findIn K (.ref C) "__init__" = some (some (.ref f))) (hf : PySem.W.typeIn K (.ref f) = some (.type "function"))
    (h : codeAny (model prog w) (A.under (.builtin "type.__call__" ⟨.ref C :: vs, kw⟩)) (.call (.ref f) ⟨.ref (s.heap.objs.size + 1) :: vs, kw⟩) (PySem.W.InitBack (s.heap.objs.size + 1) R)
      { s with heap := (s.heap.push PySem.W.emptyDict).push (PySem.W.instObj C s.heap.objs.size) }) :
    codeAny (model prog w) A (.call (.ref C) ⟨vs, kw⟩) R s := by
  obtain ⟨hh, g, d, t, os⟩ := s
  exact PySem.W.make_core (PySem.W.makes_of X hm) (PySem.W.looks_findIn X hi) (fun self => PySem.W.bind_fn X self hf) (.inl rfl) h
end
def putF (f : Str) (v : V) : List (Str × V) → List (Str × V)
  | [] => [(f, v)]
  | (g, x) :: r => if g = f then (g, v) :: r else (g, x) :: putF f v r
theorem lookup_putF (f g : Str) (v : V) : ∀ fs : List (Str × V), (putF f v fs).lookup g = if g = f then some v else fs.lookup g
  | [] => by
    show List.lookup g [(f, v)] = _
    by_cases h : g = f
    · have hb : (g == f) = true := beq_iff_eq.mpr h
      simp only [List.lookup, hb, if_pos h]
    · have hb : (g == f) = false := beq_eq_false_iff_ne.mpr h
      simp only [List.lookup, hb, if_neg h]
  | (k, x) :: r => by
    have ih := lookup_putF f g v r
    rw [show putF f v ((k, x) :: r) = (if k = f then (k, v) :: r else (k, x) :: putF f v r) from rfl]
    by_cases hk : k = f
    · rw [if_pos hk]
      by_cases h : g = k
      · have hb : (g == k) = true := beq_iff_eq.mpr h
        simp only [List.lookup, hb, if_pos (h.trans hk)]
      · have hb : (g == k) = false := beq_eq_false_iff_ne.mpr h
        simp only [List.lookup, hb, if_neg (fun e : g = f => h (e.trans hk.symm))]
    · rw [if_neg hk]
      by_cases h : g = k
      · have hb : (g == k) = true := beq_iff_eq.mpr h
        simp only [List.lookup, hb, if_neg (fun e : g = f => hk (h.symm.trans e))]
      · have hb : (g == k) = false := beq_eq_false_iff_ne.mpr h
        simp only [List.lookup, hb]
        exact ih
theorem keys_putF (f : Str) (v : V) : ∀ fs : List (Str × V), f ∈ (putF f v fs).map (·.1) ∧ ∀ g, g ∈ fs.map (·.1) → g ∈ (putF f v fs).map (·.1)
  | [] => ⟨by simp [putF], fun g h => by simp at h⟩
  | (k, x) :: r => by
    obtain ⟨i1, i2⟩ := keys_putF f v r
    rw [show putF f v ((k, x) :: r) = (if k = f then (k, v) :: r else (k, x) :: putF f v r) from rfl]
    by_cases hk : k = f
    · rw [if_pos hk]
      subst hk
      exact ⟨by simp, fun g h => by simpa using h⟩
    · rw [if_neg hk]
      refine ⟨?_, fun g h => ?_⟩
      · rw [List.map_cons]
        exact List.mem_cons_of_mem _ i1
      · rw [List.map_cons] at h ⊢
        rcases List.mem_cons.mp h with e | e
        · exact List.mem_cons.mpr (.inl e)
        · exact List.mem_cons_of_mem _ (i2 g e)
theorem length_putF (f : Str) (v : V) : ∀ fs : List (Str × V), (putF f v fs).length ≤ fs.length + 1
  | [] => by simp [putF]
  | (k, x) :: r => by
    have ih := length_putF f v r
    rw [show putF f v ((k, x) :: r) = (if k = f then (k, v) :: r else (k, x) :: putF f v r) from rfl]
    by_cases hk : k = f
    · rw [if_pos hk, List.length_cons, List.length_cons]; omega
    · rw [if_neg hk, List.length_cons, List.length_cons]; omega
theorem RelO.some_of {v : V} {o : Option Value} (r : RelO (some v) o) : ∃ u, o = some u ∧ RelV v u := by
  cases o with
  | none => exact (show False from r).elim
  | some u => exact ⟨u, rfl, r⟩
theorem handed_of {v : V} {u : Value} (r : RelV v u) : PySem.W.handedIn u = true := by
  cases v with
  | non => cases (show u = Value.none from r); rfl
  | bl b => cases (show u = Value.bool b from r); rfl
  | int i => obtain ⟨t, e⟩ := (show ∃ t, u = Value.int i t from r); cases e; rfl
  | str x => obtain ⟨t, e⟩ := (show ∃ t, u = Value.str x t from r); cases e; rfl
  | byt b => obtain ⟨t, e⟩ := (show ∃ t, u = Value.bytes b t from r); cases e; rfl
  | flt b => obtain ⟨t, e⟩ := (show ∃ t, u = Value.float b t from r); cases e; rfl
  | ref a => cases (show u = Value.ref a from r); rfl
  | ty n => cases (show u = Value.type n from r); rfl
section
variable {P : Program} {w : World} {H H' : Hp} {h h' : Heap} {a C dx : Addr} {fs fs' : List (Str × V)}
theorem ins_get (hok : HOk P w H h) (e : H a = some (.ins C dx fs)) : ∃ mA, ObjM h a dx C mA ∧ (∀ f, RelO (fs.lookup f) (mA f)) ∧ PySem.Within mA (fs.map (·.1)) ∧ fs.length ≤ 1000 ∧ H dx = some (.own a) := by
  obtain ⟨d, z, ne, ob, mA, n, r, q⟩ := (show ObjOk P w H h a (.ins C dx fs) from hok a _ e)
  exact ⟨mA, ⟨ob, n, ne⟩, r, q, z, d⟩
end
structure Cls (K : PySem.W.Frag) (C : Addr) : Prop where
  pg : PySem.W.plainGet K C Str.empty = true
  hd : PySem.W.hasDictIn K C = true
  po : PySem.W.plainOver K C = true
  sa : PySem.W.findIn K (.ref C) "__setattr__" = some (some (.builtin "object.__setattr__"))
theorem Cls.get {K : PySem.W.Frag} {C : Addr} (c : Cls K C) (f : Str) : PySem.W.plainGet K C f = true := c.pg
def NoAttr (K : PySem.W.Frag) (C : Addr) (f : Str) : Prop := PySem.W.findIn K (.ref C) f = some none
theorem NoAttr.taker {K : PySem.W.Frag} {C : Addr} {f : Str} (n : NoAttr K C f) : PySem.W.takerIn K C f = some none := by
  unfold PySem.W.takerIn
  rw [show PySem.W.findIn K (.ref C) f = some none from n]
  rfl
section
variable {X : Cx} {pins : List (Addr × Obj)} {σ : St} {H : Hp} {s : Shared} {a C dx : Addr} {fs : List (Str × V)} {f : Str} {v : V} {A : Around} {E : Value → Shared → Prop}
theorem getattr_ok {b : Bool} {Q : Value → Shared → Prop} (I : Inv X pins σ H s) (e : H a = some (.ins C dx fs)) (c : Cls X.K C) (n : NoAttr X.K C f) (l : fs.lookup f = some v)
    (h : ∀ u s', Inv X pins σ H s' → RelV v u → Q u s') : wpAny (model X.prog X.w) A (getAttr (.ref a) f b) Q E s := by
  obtain ⟨mA, O, r, _, _, _⟩ := ins_get I.hok e
  obtain ⟨u, hu, ru⟩ := RelO.some_of (v := v) (o := mA f) (by rw [← l]; exact r f)
  exact get_map I.kIn O (c.get f) c.hd n hu (handed_of ru) (h u _ (I.tok _) ru)
theorem setattr_ok {y : V} {u : Value} {Q : Unit → Shared → Prop} (I : Inv X pins σ H s) (e : H a = some (.ins C dx fs)) (c : Cls X.K C) (n : NoAttr X.K C f) (hl : fs.length < 1000) (ry : RelV y u)
    (h : ∀ s', Inv X pins σ (upd H a (.ins C dx (putF f y fs))) s' → Q () s') : wpAny (model X.prog X.w) A (setAttr (.ref a) f u) Q E s := by
  obtain ⟨mA, O, r, wi, _, ho⟩ := ins_get I.hok e
  have hz : (fs.map (·.1)).length ≤ sizeLine := by rw [List.length_map, sizeLine_eq]; omega
  refine set_map I.kIn O c.sa c.po n.taker c.hd wi hz fun h' O' sb => h _ ?_
  have hd : ∃ o, h'.get? dx = some o := let ⟨o, _, _, e', _⟩ := O'.ns; ⟨o, e'⟩
  refine I.write (x := a) (e := dx) (by rw [e]; exact True.intro) (.inr ho) (fun b q hb z => (sb.2 b hb).trans z) hd ?_
  refine ⟨by rw [upd_ne O.ne]; exact ho, ?_, O.ne, O'.obj, _, O'.ns, fun g => ?_, fun g hg => ?_⟩
  · have := length_putF f y fs; omega
  · show RelO ((putF f y fs).lookup g) (if g = f then some u else mA g)
    rw [lookup_putF]
    by_cases q : g = f
    · rw [if_pos q, if_pos q]; exact ry
    · rw [if_neg q, if_neg q]; exact r g
  · by_cases q : g = f
    · rw [q]; exact (keys_putF f y fs).1
    · refine (keys_putF f y fs).2 g (wi g fun z => hg ?_)
      show (if g = f then some u else mA g) = none
      rw [if_neg q]; exact z
theorem Inv.made (I : Inv X pins σ H s) : Inv X pins σ (upd (upd H s.heap.objs.size (.own (s.heap.objs.size + 1))) (s.heap.objs.size + 1) (.ins C s.heap.objs.size []))
    { s with heap := (s.heap.push PySem.W.emptyDict).push (PySem.W.instObj C s.heap.objs.size) } := by
  have e1 : (s.heap.push PySem.W.emptyDict).get? s.heap.objs.size = some PySem.W.emptyDict := Heap.get?_push_size s.heap rfl
  have e2 : ((s.heap.push PySem.W.emptyDict).push (PySem.W.instObj C s.heap.objs.size)).get? (s.heap.objs.size + 1) = some (PySem.W.instObj C s.heap.objs.size) := by
    have := Heap.get?_push_size (s.heap.push PySem.W.emptyDict) (o := PySem.W.instObj C s.heap.objs.size) rfl
    rwa [Heap.size_push] at this
  have e3 : (s.heap.push PySem.W.emptyDict).Ns s.heap.objs.size (fun _ => none) := ⟨PySem.W.emptyDict, #[], _, e1, rfl, (fun e he => absurd he (by simp)), fun _ => rfl⟩
  have I1 := I.laid (a := s.heap.objs.size) (o := .own (s.heap.objs.size + 1)) (h' := s.heap.push PySem.W.emptyDict) (t' := s.toks) (fun b u q => Heap.get?_push_of_some _ q) (Nat.le_refl _) ⟨_, e1⟩
  refine I1.laid (a := s.heap.objs.size + 1) (o := .ins C s.heap.objs.size []) (t' := s.toks) (fun b u q => Heap.get?_push_of_some _ q) (Nat.le_of_eq (Heap.size_push _ _)) ?_
  have ne : s.heap.objs.size ≠ s.heap.objs.size + 1 := Nat.ne_of_lt (Nat.lt_succ_self _)
  refine ⟨by rw [upd_ne ne, upd_same], Nat.zero_le _, ne, e2, fun _ => none, (Heap.Ns1.of_empty e3).at fun o q => Heap.get?_push_of_some _ q, fun _ => True.intro, fun y hy => absurd rfl hy⟩
theorem attr_of {prog : Program} {w : World} {env : Env} {e : Expr} {f : Str} {pos : Pos} {s : Shared} {Q : Value → Shared → Prop} (hb : attributeBase e f env (eval e env) = eval e env)
    (h : wpAny (model prog w) A (eval e env) (fun o s₁ => wpAny (model prog w) A (getAttr o f true) Q E s₁) E s) : wpAny (model prog w) A (eval (.Attribute e f pos) env) Q E s :=
  Attribute_any_ h (by rw [arm_eval_Attribute, hb])
end
def tFld (K : PySem.W.Frag) (ta : TE) (f : Str) : TE := fun σ H Q => ta σ H fun x H1 => ∃ a C dx fs v, x = .ref a ∧ H1 a = some (.ins C dx fs) ∧ Cls K C ∧ NoAttr K C f ∧ fs.lookup f = some v ∧ Q v H1
def sFld (K : PySem.W.Frag) (ta tv : TE) (f : Str) : TS := fun D σ H => tv σ H fun y H1 => ta σ H1 fun x H2 => ∃ a C dx fs, x = .ref a ∧ H2 a = some (.ins C dx fs) ∧ Cls K C ∧ NoAttr K C f ∧ fs.length < 1000 ∧
  D.nx σ (upd H2 a (.ins C dx (putF f y fs)))
section
variable {X : Cx} {o e value : Expr} {f : Str} {pos pos' tpos : Pos} {ta tv : TE}
theorem pe_fld (he : PE X e ta) (hb : attributeBase e f X.env (eval e X.env) = eval e X.env) : PE X (.Attribute e f pos) (tFld X.K ta f) := by
  intro pins s σ H Q I h
  refine attr_of hb (thn (he pins s σ H _ I h) fun u s1 ⟨x, H1, I1, rx, a, C, dx, fs, v, ex, ea, c, n, l, q⟩ => ?_)
  subst ex
  obtain rfl : u = Value.ref a := rx
  exact getattr_ok I1 ea c n l fun u' s2 I2 ru => ⟨v, H1, I2, ru, q⟩
theorem ps_fld (ha : PE X o ta) (hv : PE X value tv) (hs : swapsWith value (some (.Attribute o f pos')) pos.line X.env = pure false) : PS X (.Assign [.Attribute o f pos'] value pos) (sFld X.K ta tv f) := by
  intro pins s σ H D I h
  refine plainObj_wpAny_Assign_Attribute (thn (hv pins s σ H _ I h) fun u s1 ⟨y, H1, I1, ry, q⟩ => thn (ha pins s1 σ H1 _ I1 q) fun ov s2 ⟨x, H2, I2, rx, a, C, dx, fs, ex, ea, c, n, l, q2⟩ => ?_) hs
  subst ex
  obtain rfl : ov = Value.ref a := rx
  exact setattr_ok I2 ea c n l ry fun s3 I3 => ⟨σ, _, I3, q2⟩
end
end L2
namespace L2
open PySem PySem.Spec PyProof.Rows
structure Room (k : Nat) (A : Around) : Prop where
  hd : A.handled = none
  dp : A.depth + 3 * k + 5 < recursionLimit
  un : A.units + 16 * k + 200 < cLine
theorem Room.mono {j k : Nat} {A : Around} (r : Room k A) (h : j ≤ k) : Room j A := ⟨r.hd, by have := r.dp; omega, by have := r.un; omega⟩
theorem Room.deeper {k : Nat} {A : Around} (r : Room (k + 1) A) (env : Env) : Room k (A.deeper env) :=
  ⟨r.hd, by have := r.dp; show A.depth + 1 + 3 * k + 5 < _; omega, by have := r.un; show A.units + 3 + 16 * k + 200 < _; omega⟩
theorem make_depth {A : Around} {C : Addr} {us : List Value} {kw : List (Str × Value)} : (A.under (.builtin "type.__call__" ⟨.ref C :: us, kw⟩)).depth = A.depth + 1 := by
  first | rfl | simp [Around.under, Code.weight, Code.isCreation, Code.isGuard, Code.isCaller, Code.frames, Code.isFrame, guardIds]
theorem make_units {A : Around} {C : Addr} {us : List Value} {kw : List (Str × Value)} : (A.under (.builtin "type.__call__" ⟨.ref C :: us, kw⟩)).units = A.units + 1 := by
  first | rfl | simp [Around.under, Code.cUnits, Code.frames, Code.isFrame]
theorem Room.make {k : Nat} {A : Around} (r : Room (k + 1) A) (C : Addr) (us : List Value) (kw : List (Str × Value)) : Room k (A.under (.builtin "type.__call__" ⟨.ref C :: us, kw⟩)) :=
  ⟨r.hd, by have := r.dp; rw [make_depth]; omega, by have := r.un; rw [make_units]; omega⟩
theorem Room.depth {k : Nat} {A : Around} (r : Room k A) : A.depth < recursionLimit := by have := r.dp; omega
theorem Room.units {k : Nat} {A : Around} (r : Room k A) : A.units + 64 < cLine := by have := r.un; omega
def tNil : TA := fun _ H Q => Q [] H
def tCons (ta : TE) (tr : TA) : TA := fun σ H Q => ta σ H fun x H1 => tr σ H1 fun xs H2 => Q (x :: xs) H2
section
variable {X : Cx} {e : Expr} {es : List Expr} {te : TE} {t : TA} {pos : Pos}
theorem pa_nil : PA X [] tNil := fun _ _ _ _ H Q I h => Calls.spliced_nil ⟨[], H, I, .nil, h⟩
theorem pa_cons (ha : PE X e te) (hr : PA X es t) (hs : starEach (e :: es) X.env = (false, eval e X.env) :: starEach es X.env := by rfl) : PA X (e :: es) (tCons te t) := by
  intro pos pins s σ H Q I h
  rw [hs]
  show wpAny _ _ (spliced ((false, eval e X.env) :: backTo pos (starEach es X.env))) _ _ s
  refine Calls.spliced_cons (thn (ha pins s σ H _ I h) fun u s1 ⟨x, H1, I1, r1, q1⟩ => ?_)
  exact thn (hr pos pins s1 σ H1 _ I1 q1) fun us s2 ⟨xs, H2, I2, r2, q2⟩ => ⟨x :: xs, H2, I2, .cons r1 r2, q2⟩
def tTup (t : TA) : TE := fun σ H Q => t σ H fun xs H1 => xs.length ≤ sizeLine ∧ ∀ p, H1 p = none → Q (.ref p) (upd H1 p (.tup xs))
def tLst (t : TA) : TE := fun σ H Q => t σ H fun xs H1 => xs.length ≤ sizeLine ∧ ∀ p, H1 p = none → Q (.ref p) (upd H1 p (.lst xs))
theorem pe_tup {x1} (h : PA X es t) : PE X (.Tuple es x1 pos) (tTup t) := by
  intro pins s σ H Q I hq
  refine wpAny_Tuple_spliced (thn (h pos pins s σ H _ I hq) fun us s1 ⟨xs, H1, I1, r, z, q⟩ => ⟨by rw [← r.length]; exact z, ?_⟩)
  have hf : H1 s1.heap.objs.size = none := I1.hok.fresh (Nat.le_refl _)
  refine ⟨.ref s1.heap.objs.size, upd H1 s1.heap.objs.size (.tup xs), I1.laid (t' := s1.toks) (fun b u e => Heap.get?_push_of_some _ e) (Nat.le_refl _) ?_, rfl, q _ hf⟩
  exact ⟨z, us, r, ⟨_, Heap.get?_push_size _ rfl, rfl, _, rfl⟩⟩
theorem pe_lst (h : PA X es t) : PE X (.List es pos) (tLst t) := by
  intro pins s σ H Q I hq
  refine wpAny_List_spliced (thn (h pos pins s σ H _ I hq) fun us s1 ⟨xs, H1, I1, r, z, q⟩ => ⟨by rw [← r.length]; exact z, ?_⟩)
  have hf : H1 s1.heap.objs.size = none := I1.hok.fresh (Nat.le_refl _)
  refine ⟨.ref s1.heap.objs.size, upd H1 s1.heap.objs.size (.lst xs), I1.laid (t' := s1.toks) (fun b u e => Heap.get?_push_of_some _ e) (Nat.le_refl _) ?_, rfl, q _ hf⟩
  exact ⟨z, us, 0, r, Heap.get?_push_size _ rfl⟩
end
abbrev Sp := List V → Hp → VK → XK → Prop
abbrev CXT := List Env → Hp → Shared → XK → Value → Shared → Prop
structure Env0 (P : Program) (w : World) (K : PySem.W.Frag) (mg : Str → Option Value) (base : Heap) (A : Around) (outer : List Env) (s : Shared) (H : Hp) : Prop where
  frames : A.frames = some outer
  mod : Mod K mg base
  bs : ∀ b o, base.get? b = some o → s.heap.get? b = some o ∧ H b = none
  bsz : base.objs.size ≤ s.heap.objs.size
  funs : s.heap.FunFrames base outer
  frf : ∀ b ∈ frs outer, H b = none
  hok : HOk P w H s.heap
  bare : AllBare s.gens
def CE (outer : List Env) (P : Program) (w : World) (H : Hp) (s : Shared) (Q : VK) (u : Value) (s' : Shared) : Prop :=
  ∃ v H', s'.os = s.os ∧ AllBare s'.gens ∧ Un (frs outer) [] H H' s.heap s'.heap ∧ HOk P w H' s'.heap ∧ RelV v u ∧ Q v H'
def CR (CX : CXT) (outer : List Env) (P : Program) (w : World) (H : Hp) (s : Shared) (Q : VK) (E : XK) (r : Result) (s' : Shared) : Prop :=
  match r with
  | .ok (.ret u) => CE outer P w H s Q u s'
  | .ok _ => False
  | .error e => CX outer H s E e s'
structure FnOk (P : Program) (w : World) (K : PySem.W.Frag) (mg : Str → Option Value) (base : Heap) (CX : CXT) (k : Nat) (f : Addr) (fd : FuncData) (ps : List Str) (sp : Sp) : Prop where
  len : ∀ vs H Q E, sp vs H Q E → vs.length = ps.length
  run : ∀ (A : Around) (outer : List Env) (s : Shared) (H : Hp) (args : Args) (us : List Value) (vs : List V) (Q : VK) (E : XK), Room k A → Env0 P w K mg base A outer s H → BindsTo s fd args (ps.zip us) → Vals vs us → sp vs H Q E →
    codeAny (model P w) A (.call (.ref f) args) (CR CX outer P w H s Q E) s
theorem Env0.make {P : Program} {w : World} {K : PySem.W.Frag} {mg : Str → Option Value} {base : Heap} {A : Around} {outer : List Env} {s : Shared} {H : Hp} (e : Env0 P w K mg base A outer s H) (C : Addr) (us : List Value) (kw : List (Str × Value)) :
    Env0 P w K mg base (A.under (.builtin "type.__call__" ⟨.ref C :: us, kw⟩)) outer s H := ⟨by first | exact e.frames | (simpa [Around.under, Code.envs, Code.isFrame, pushEnvs] using e.frames), e.mod, e.bs, e.bsz, e.funs, e.frf, e.hok, e.bare⟩
section
variable {X : Cx} {pins : List (Addr × Obj)} {σ : St} {H : Hp} {s s' : Shared}
theorem Inv.env0 (I : Inv X pins σ H s) : Env0 X.prog X.w X.K X.mg X.base X.A X.stack s H :=
  ⟨I.ok.frames, I.ok.mod, I.bs, Nat.le_trans I.ok.bsz I.sz, I.stack, I.stkFree, I.hok, I.bare⟩
theorem Inv.after {Q : VK} {u : Value} (I : Inv X pins σ H s) (h : CE X.stack X.prog X.w H s Q u s') : EP X pins σ Q u s' := by
  obtain ⟨v, H', os, bare, un, hok, r, q⟩ := h
  obtain ⟨hh, g, d, t, os'⟩ := s'
  obtain rfl : os' = s.os := os
  exact ⟨v, H', I.call (h' := hh) (g' := g) (d' := d) (t' := t) (ch := []) un hok bare (fun b z => absurd z (by simp)), r, q⟩
end
def tCall (sp : Sp) (dvs : List V) (E : XK) (t : TA) : TE := fun σ H Q => t σ H fun vs H1 => sp (vs ++ dvs) H1 Q E
def tMake (C : Addr) (sp : Sp) (dvs : List V) (E : XK) (t : TA) : TE := fun σ H Q => t σ H fun vs H1 => ∀ x dx, H1 x = none → H1 dx = none → dx ≠ x →
  sp (.ref x :: (vs ++ dvs)) (upd (upd H1 dx (.own x)) x (.ins C dx [])) (fun v H2 => v = .non ∧ Q (.ref x) H2) E
def Binds (K : PySem.W.Frag) (fd : FuncData) (ps : List Str) (ds : List Value) : Prop :=
  ∀ (s : Shared) (us : List Value), K.In s.heap → (us ++ ds).length = ps.length → BindsTo s fd ⟨us, []⟩ (ps.zip (us ++ ds))
theorem Binds.all {K : PySem.W.Frag} {fd : FuncData} {ps : List Str} (h : ∀ us : List Value, us.length = ps.length → bindArgs fd ⟨us, []⟩ = pure (ps.zip us)) : Binds K fd ps [] := fun s us _ hl => by
  rw [List.append_nil] at hl ⊢
  exact .of_eq (h us hl)
def Passes (CX : CXT) (X : Cx) (E : XK) : Prop := ∀ (pins : List (Addr × Obj)) (σ : St) (H : Hp) (s : Shared) (e : Value) (s' : Shared), Inv X pins σ H s → CX X.stack H s E e s' → X.xe e s'
section
variable {X : Cx} {CX : CXT} {k : Nat} {f C : Addr} {fd : FuncData} {ps : List Str} {sp : Sp} {dvs : List V} {ds : List Value} {E : XK} {x m : Str} {p pos apos : Pos} {e o : Expr} {es : List Expr} {ta : TE} {t : TA}
theorem run_fn {pins : List (Addr × Obj)} {σ : St} {H : Hp} {s : Shared} {Q : VK} {us : List Value} {vs : List V} (F : FnOk X.prog X.w X.K X.mg X.base CX k f fd ps sp) (hr : Room k X.A) (hb : Binds X.K fd ps ds) (hd : Vals dvs ds) (hx : Passes CX X E)
    (I : Inv X pins σ H s) (r : Vals vs us) (h : sp (vs ++ dvs) H Q E) : wpAny (model X.prog X.w) X.A (call (.ref f) us) (EP X pins σ Q) X.xe s := by
  have r2 : Vals (vs ++ dvs) (us ++ ds) := r.append hd
  have hl : (us ++ ds).length = ps.length := by rw [← r2.length]; exact F.len _ _ _ _ h
  refine wpAny_call (codeAny_mono (F.run X.A X.stack s H ⟨us, []⟩ (us ++ ds) (vs ++ dvs) Q E hr I.env0 (hb s us I.kIn hl) r2 h) fun r s' hq => ?_)
  cases r with
  | error e => exact hx pins σ H s e s' I hq
  | ok fl =>
    cases fl with
    | ret u => exact I.after hq
    | next => exact False.elim hq
    | brk => exact False.elim hq
    | cont => exact False.elim hq
theorem pe_call (F : FnOk X.prog X.w X.K X.mg X.base CX k f fd ps sp) (hr : Room k X.A) (hg : Gl X x) (hm : X.mg x = some (.ref f)) (hk : PySem.W.keepIn X.K (.ref f) = true) (hb : Binds X.K fd ps ds) (hd : Vals dvs ds) (hx : Passes CX X E)
    (ha : PA X (e :: es) t) (hdb : (x == ("__debug__" : Str)) = false := by decide) (he : starEach (e :: es) X.env = (false, eval e X.env) :: starEach es X.env := by rfl) (hpl : (backTo pos (starEach es X.env)).any (·.1) = false := by rfl) :
    PE X (.Call (.Name x p) (e :: es) [] pos) (tCall sp dvs E t) := by
  intro pins s σ H Q I h
  refine wpAny_Call_Name_kw (ld_glob I hg hm ?_ hdb)
  refine PySem.W.callWith_K (h₀ := X.base) I.ok.mod.kin hk (thn (ha pos pins s σ H _ I h) fun us s1 ⟨vs, H1, I1, r, q⟩ => ⟨I1.kIn, ?_⟩) he hpl
  exact run_fn F hr hb hd hx I1 r q
structure Mk (K : PySem.W.Frag) (C f : Addr) : Prop where
  makes : PySem.W.makesIn K C = true
  init : PySem.W.findIn K (.ref C) "__init__" = some (some (.ref f))
  fn : PySem.W.isFn K (.ref f) = true
  kp : PySem.W.keepIn K (.ref C) = true
theorem run_make {pins : List (Addr × Obj)} {σ : St} {H : Hp} {s : Shared} {Q : VK} {us : List Value} {vs : List V} (M : Mk X.K C f) (F : FnOk X.prog X.w X.K X.mg X.base CX k f fd ps sp) (hr : Room (k + 1) X.A) (hb : Binds X.K fd ps ds) (hd : Vals dvs ds)
    (hx : Passes CX X E) (I : Inv X pins σ H s) (r : Vals vs us)
    (h : ∀ x dx, H x = none → H dx = none → dx ≠ x → sp (.ref x :: (vs ++ dvs)) (upd (upd H dx (.own x)) x (.ins C dx [])) (fun v H2 => v = .non ∧ Q (.ref x) H2) E) :
    wpAny (model X.prog X.w) X.A (call (.ref C) us) (EP X pins σ Q) X.xe s := by
  have hq := h (s.heap.objs.size + 1) s.heap.objs.size (I.hok.fresh (Nat.le_succ _)) (I.hok.fresh (Nat.le_refl _)) (Nat.ne_of_lt (Nat.lt_succ_self _))
  have I2 := Inv.made (C := C) I
  have r2 : Vals (V.ref (s.heap.objs.size + 1) :: (vs ++ dvs)) (Value.ref (s.heap.objs.size + 1) :: (us ++ ds)) := .cons rfl (r.append hd)
  have hl : (Value.ref (s.heap.objs.size + 1) :: us ++ ds).length = ps.length := by
    have e := r2.length
    rw [F.len _ _ _ _ hq] at e
    exact e.symm
  refine wpAny_call (make_map (f := f) I.kIn M.makes M.init (beq_iff_eq.mp M.fn) (codeAny_mono (F.run _ X.stack _ _ ⟨Value.ref (s.heap.objs.size + 1) :: us, []⟩ (Value.ref (s.heap.objs.size + 1) :: (us ++ ds)) _ _ E (hr.make C us [])
    (I2.env0.make C us []) (hb _ (Value.ref (s.heap.objs.size + 1) :: us) I2.kIn hl) r2 hq) fun r s' hq' => ?_))
  cases r with
  | error e => exact hx pins σ _ _ e s' I2 hq'
  | ok fl =>
    cases fl with
    | ret u =>
      obtain ⟨v, H', I3, rv, ev, q3⟩ := I2.after hq'
      subst ev
      exact ⟨rv, ⟨V.ref (s.heap.objs.size + 1), H', I3, rfl, q3⟩⟩
    | next => exact False.elim hq'
    | brk => exact False.elim hq'
    | cont => exact False.elim hq'
theorem pe_make (M : Mk X.K C f) (F : FnOk X.prog X.w X.K X.mg X.base CX k f fd ps sp) (hr : Room (k + 1) X.A) (hg : Gl X x) (hm : X.mg x = some (.ref C)) (hb : Binds X.K fd ps ds) (hd : Vals dvs ds) (hx : Passes CX X E)
    (ha : PA X (e :: es) t) (hdb : (x == ("__debug__" : Str)) = false := by decide) (he : starEach (e :: es) X.env = (false, eval e X.env) :: starEach es X.env := by rfl) (hpl : (backTo pos (starEach es X.env)).any (·.1) = false := by rfl) :
    PE X (.Call (.Name x p) (e :: es) [] pos) (tMake C sp dvs E t) := by
  intro pins s σ H Q I h
  refine wpAny_Call_Name_kw (ld_glob I hg hm ?_ hdb)
  refine PySem.W.callWith_K (h₀ := X.base) I.ok.mod.kin M.kp (thn (ha pos pins s σ H _ I h) fun us s1 ⟨vs, H1, I1, r, q⟩ => ⟨I1.kIn, ?_⟩) he hpl
  exact run_make M F hr hb hd hx I1 r q
end
structure FnScope (N P : List Str) (sc : Scope) : Prop where
  kind : sc.kind = .function
  co : sc.isCoroutine = false
  gen : sc.isGenerator = false
  nd : N.Nodup
  pre : N.take P.length = P
  par : ∀ x ∈ P, sc.names.lookup x = some .local ∨ sc.names.lookup x = some .cell
  nofree : ∀ y ∈ sc.names, y.2 ≠ .free
theorem bindL_out {kindOf : Str → Option NameKind} {x : Str} : ∀ {binds : List (Str × Value)} {m : Str → Option Value}, (∀ v, (x, v) ∉ binds) → bindL kindOf binds m x = m x
  | [], _, _ => rfl
  | (n, v) :: r, m, h => by
    unfold bindL
    rw [bindL_out fun w hw => h w (List.mem_cons_of_mem _ hw)]
    split
    · have : x ≠ n := by rintro rfl; exact h v List.mem_cons_self
      simp [this]
    · rfl
theorem bindC_out {kindOf : Str → Option NameKind} {x : Str} : ∀ {binds : List (Str × Value)} {m : Str → Option Value}, (∀ v, (x, v) ∉ binds) → bindC kindOf binds m x = m x
  | [], _, _ => rfl
  | (n, v) :: r, m, h => by
    unfold bindC
    rw [bindC_out fun w hw => h w (List.mem_cons_of_mem _ hw)]
    split
    · rfl
    · have : x ≠ n := by rintro rfl; exact h v List.mem_cons_self
      simp [this]
theorem bindL_get {kindOf : Str → Option NameKind} {x : Str} {v : Value} : ∀ {P : List Str} {vs : List Value} {i : Nat} {m : Str → Option Value}, P.Nodup → P[i]? = some x → vs[i]? = some v → kindOf x = some .local →
    bindL kindOf (P.zip vs) m x = some v
  | [], _, _, _, _, h, _, _ => by simp at h
  | _ :: _, [], _, _, _, _, h, _ => by simp at h
  | p :: P, w :: vs, 0, m, nd, h1, h2, hk => by
    simp at h1 h2; subst h1; subst h2
    show bindL kindOf ((p, w) :: P.zip vs) m p = _
    unfold bindL
    rw [bindL_out fun v hv => (List.nodup_cons.mp nd).1 (List.of_mem_zip hv).1, if_pos hk]
    simp
  | p :: P, w :: vs, i + 1, m, nd, h1, h2, hk => by
    show bindL kindOf ((p, w) :: P.zip vs) m x = _
    unfold bindL
    exact bindL_get (i := i) (List.nodup_cons.mp nd).2 (by simpa using h1) (by simpa using h2) hk
theorem bindC_get {kindOf : Str → Option NameKind} {x : Str} {v : Value} : ∀ {P : List Str} {vs : List Value} {i : Nat} {m : Str → Option Value}, P.Nodup → P[i]? = some x → vs[i]? = some v → kindOf x ≠ some .local →
    bindC kindOf (P.zip vs) m x = some v
  | [], _, _, _, _, h, _, _ => by simp at h
  | _ :: _, [], _, _, _, _, h, _ => by simp at h
  | p :: P, w :: vs, 0, m, nd, h1, h2, hk => by
    simp at h1 h2; subst h1; subst h2
    show bindC kindOf ((p, w) :: P.zip vs) m p = _
    unfold bindC
    rw [bindC_out fun v hv => (List.nodup_cons.mp nd).1 (List.of_mem_zip hv).1, if_neg hk]
    simp
  | p :: P, w :: vs, i + 1, m, nd, h1, h2, hk => by
    show bindC kindOf ((p, w) :: P.zip vs) m x = _
    unfold bindC
    exact bindC_get (i := i) (List.nodup_cons.mp nd).2 (by simpa using h1) (by simpa using h2) hk
def start (N : List Str) (vs : List V) : St := vs.map some ++ List.replicate (N.length - vs.length) none
def cxOf (CX : CXT) (P : Program) (w : World) (K : PySem.W.Frag) (mg : Str → Option Value) (base : Heap) (N : List Str) (qual : Str) (scope : Scope) (f : Addr) (cd : Value) (A : Around) (outer : List Env) (s : Shared) (H : Hp) (E : XK) : Cx where
  prog := P
  w := w
  K := K
  mg := mg
  base := base
  A := A.deeper (envOfC qual scope s.heap.objs.size f cd)
  N := N
  s_0 := s
  H_0 := H
  env := envOfC qual scope s.heap.objs.size f cd
  outer := outer
  stack := envOfC qual scope s.heap.objs.size f cd :: outer
  ex := []
  calm := true
  fn := fun _ => true
  pn := []
  xe := fun e s' => wpAny (model P w) (A.deeper (envOfC qual scope s.heap.objs.size f cd)) (leaving (envOfC qual scope s.heap.objs.size f cd) e) (fun _ s'' => CX outer H s E e s'') (fun e' s'' => CX outer H s E e' s'') s'
theorem cell_has {sc : Scope} {n : Nat} {x : Str} (h : sc.names.lookup x = some .cell) : ∃ c, (cellsFrom n sc.names []).lookup x = some c := by
  have q := PySem.W.cellsFrom_some sc.names n [] (.inl h)
  exact Option.isSome_iff_exists.mp q
theorem inv_start {CX : CXT} {P : Program} {w : World} {K : PySem.W.Frag} {mg : Str → Option Value} {base : Heap} {N ps : List Str} {qual : Str} {scope : Scope} {f : Addr} {cd : Value} {A : Around} {outer : List Env} {s s1 : Shared} {H : Hp} {E : XK} {us : List Value} {vs : List V}
    (S : FnScope N ps scope) (hd : A.handled = none) (e0 : Env0 P w K mg base A outer s H) (hl : vs.length = ps.length) (r : Vals vs us)
    (x : InCallC s s.heap.objs.size (bindL (envOfC qual scope s.heap.objs.size f cd).kindOf (ps.zip us) fun _ => none) (cellsFrom (s.heap.objs.size + 1) scope.names []) (bindC (envOfC qual scope s.heap.objs.size f cd).kindOf (ps.zip us) fun _ => none) s1) :
    Inv (cxOf CX P w K mg base N qual scope f cd A outer s H E) [] (start N vs) H s1 := by
  have hpl : ps.length ≤ N.length := by have := congrArg List.length S.pre; rw [List.length_take] at this; omega
  obtain ⟨h1, tk, rfl, hk⟩ := x.done
  have noA : ∀ b : Addr, b ∉ (cxOf CX P w K mg base N qual scope f cd A outer s H E).ex := fun b z => absurd (show b ∈ ([] : List Addr) from z) (by simp)
  refine ⟨⟨e0.mod, S.kind, rfl, rfl, Nat.le_refl _, fun y z c h1 h2 => ?_, fun y hy => ?_, fun y c _ h => ?_, fun _ => hd, Around.frames_deeper e0.frames, .inr ⟨rfl, rfl⟩, fun b z => absurd z (noA b), e0.bs, e0.bsz, fun b _ _ => noA b, fun b z => absurd z (noA b), e0.funs, e0.frf⟩,
    rfl, e0.bare, Un.kept hk, ⟨_, x.toInCall.ns, fun i y v h1 h2 h3 => ?_⟩, fun y c h => ⟨_, x.cell y c h⟩, e0.hok.fresh (Nat.le_refl _), fun y c h => ?_, fun p hp => absurd (show p ∈ ([] : List (Addr × Obj)) from hp) (by simp), e0.hok.kept hk, ?_⟩
  · exact name_of_addr x.apart (PySem.mem_of_lookup h1) (PySem.mem_of_lookup h2)
  · have hy : scope.names.lookup y = some .cell ∨ scope.names.lookup y = some .free := hy
    rcases hy with hy | hy
    · exact cell_has hy
    · exact absurd rfl (S.nofree _ (PySem.mem_of_lookup hy))
  · exact Nat.le_of_lt (x.above y c (PySem.mem_of_lookup h))
  · have hi : i < vs.length := by
      unfold start at h2
      by_cases hi : i < vs.length
      · exact hi
      · rw [List.getElem?_append_right (by simpa using hi)] at h2
        rw [List.getElem?_replicate] at h2
        split at h2 <;> cases h2
    have ha : vs[i]? = some v := by
      unfold start at h2
      rw [List.getElem?_append_left (by simpa using hi), List.getElem?_map] at h2
      cases e : vs[i]? with
      | none => rw [e] at h2; cases h2
      | some a => rw [e] at h2; cases h2; rfl
    obtain ⟨u, hu, rv⟩ := r.get ha
    have hp : ps[i]? = some y := by
      rw [← S.pre, List.getElem?_take_of_lt (by omega)]; exact h1
    have ndP : ps.Nodup := by rw [← S.pre]; exact S.nd.sublist (List.take_sublist _ _)
    refine ⟨u, rv, ?_⟩
    rcases S.par y (List.mem_of_getElem? hp) with k | k
    · exact .inl ⟨k, bindL_get ndP hp hu k⟩
    · obtain ⟨c, e⟩ := cell_has (n := s.heap.objs.size + 1) k
      refine .inr ⟨.inl k, c, e, ?_⟩
      have q := x.cell y c e
      rw [bindC_get ndP hp hu (by show scope.names.lookup y ≠ _; rw [k]; decide)] at q
      exact q
  · exact e0.hok.fresh (Nat.le_of_lt (x.above y c (PySem.mem_of_lookup h)))
  · unfold start
    show _ = N.length
    rw [List.length_append, List.length_map, List.length_replicate]
    omega
theorem fn_of {CX : CXT} {P : Program} {w : World} {K : PySem.W.Frag} {mg : Str → Option Value} {base : Heap} {k : Nat} {f : Addr} {name qual : Str} {params : Arguments} {body : List Stmt} {scope : Scope} {dV kV doc pm cdv ct oc : Value} {an od : Option Addr}
    {osl : Array (Option Value)} {N ps : List Str} {sp : Sp} (lk : K.lookup f = some ⟨oc, od, .func (PySem.W.fnOf name qual params body scope dV kV doc pm an cdv ct), osl⟩) (hcd : PySem.W.codeIn K cdv qual = true) (S : FnScope N ps scope)
    (len : ∀ vs H Q E, sp vs H Q E → vs.length = ps.length)
    (hbody : ∀ (A : Around) (outer : List Env) (s : Shared) (H : Hp) (vs : List V) (Q : VK) (E : XK), Room k (A.deeper (envOfC qual scope s.heap.objs.size f cdv)) → sp vs H Q E →
      ∃ t, PSs (cxOf CX P w K mg base N qual scope f cdv A outer s H E) body t ∧ t { nx := fun _ H' => Q .non H', rt := Q } (start N vs) H) :
    FnOk P w K mg base CX (k + 1) f (PySem.W.fnOf name qual params body scope dV kV doc pm an cdv ct) ps sp := by
  refine ⟨len, fun A outer s H args us vs Q E hr e0 hb r hsp => ?_⟩
  have hl := len _ _ _ _ hsp
  have KX : K.In s.heap := e0.mod.kin.keeps fun b o e => (e0.bs b o e).1
  have lim : s.heap.NoLimit := e0.mod.nolimit.keeps fun b o e => (e0.bs b o e).1
  have hkind : ∀ y ∈ ps.zip us, scope.names.lookup y.1 = some .local ∨ (scope.names.lookup y.1 = some .cell ∧ ((cellsFrom (s.heap.objs.size + 1) scope.names []).lookup y.1).isSome = true) := fun ⟨n, v⟩ hy => by
    rcases S.par n (List.of_mem_zip hy).1 with q | q
    · exact .inl q
    · exact .inr ⟨q, PySem.W.cellsFrom_some _ _ _ (.inl q)⟩
  refine codeAny_call_function hr.depth (KX _ _ lk) rfl S.co S.gen rfl (PySem.W.codeRec_of KX hcd) (hb _ _ _ _ ?_)
  refine wpAny_newFunctionEnv_cells S.kind hkind fun env he s1 x => ?_
  subst he
  refine ⟨lim.keeps x.toInCall.keep, codeAny_func ?_⟩
  obtain ⟨t, ht, hq⟩ := hbody A outer s H vs Q E (hr.deeper _) hsp
  have I : Inv (cxOf CX P w K mg base N qual scope f cdv A outer s H E) [] (start N vs) H s1 := inv_start S hr.hd e0 hl r x
  refine wpAny_mono (ht [] s1 (start N vs) H _ I hq) (fun fl s' hs => ?_) fun e s' hs => hs
  have fin : ∀ {σ' : St} {H' : Hp} {v : V} {u : Value}, Inv (cxOf CX P w K mg base N qual scope f cdv A outer s H E) [] σ' H' s' → RelV v u → Q v H' → CE outer P w H s Q u s' :=
    fun {σ' H' v u} J rv q => ⟨v, H', J.os, J.bare, J.base, J.hok, rv, q⟩
  cases fl with
  | ret u =>
    obtain ⟨v, σ', H', J, rv, q⟩ := hs
    exact fin J rv q
  | next =>
    obtain ⟨σ', H', J, q⟩ := hs
    exact fin (v := V.non) (u := Value.none) J rfl q
  | brk =>
    obtain ⟨_, _, _, q⟩ := hs
    exact False.elim q
  | cont =>
    obtain ⟨_, _, _, q⟩ := hs
    exact False.elim q
end L2
namespace L2
open PySem PySem.Spec PyProof.Rows
section
variable {X : Cx} {x : Str} {p pos : Pos} {e : Expr} {es : List Expr} {t : TA} {id T : String} {r : List V → Hp → VK → Prop}
def tCB (r : List V → Hp → VK → Prop) (t : TA) : TE := fun σ H Q => t σ H fun vs H1 => r vs H1 Q
theorem pe_callB (hc : CallR X (.builtin id) r) (hg : Gl X x) (hm : X.mg x = none) (hv : bootBuiltins x = some (.builtin id)) (ha : PA X (e :: es) t) (hn : x ≠ "__name__" := by decide) (hdb : (x == ("__debug__" : Str)) = false := by decide)
    (he : starEach (e :: es) X.env = (false, eval e X.env) :: starEach es X.env := by rfl) (hpl : (backTo pos (starEach es X.env)).any (·.1) = false := by rfl) : PE X (.Call (.Name x p) (e :: es) [] pos) (tCB r t) := by
  intro pins s σ H Q I h
  refine wpAny_Call_Name_kw (ld_blt I hg hm hv ?_ hn hdb)
  exact PyProof.Rows.callWith_builtin1 (thn (ha pos pins s σ H _ I h) fun us s1 ⟨vs, H1, I1, r1, q1⟩ => hc pins s1 σ H1 vs us Q I1 r1 q1) he hpl
theorem pe_callTy (hc : CallR X (.type T) r) (hg : Gl X x) (hm : X.mg x = none) (hv : bootBuiltins x = some (.type T)) (ha : PA X (e :: es) t) (hn : x ≠ "__name__" := by decide) (hdb : (x == ("__debug__" : Str)) = false := by decide)
    (he : starEach (e :: es) X.env = (false, eval e X.env) :: starEach es X.env := by rfl) (hpl : (backTo pos (starEach es X.env)).any (·.1) = false := by rfl) : PE X (.Call (.Name x p) (e :: es) [] pos) (tCB r t) := by
  intro pins s σ H Q I h
  refine wpAny_Call_Name_kw (ld_blt I hg hm hv ?_ hn hdb)
  exact PyProof.Rows.callWith_type1 (thn (ha pos pins s σ H _ I h) fun us s1 ⟨vs, H1, I1, r1, q1⟩ => hc pins s1 σ H1 vs us Q I1 r1 q1) he hpl
end
end L2
namespace HT
open PySem PyProof.Rows
section
open PySem.SeqAt
open PySem.AutoSeq1 (wpAny_loadPart')
open PySem.MeetsSeq PySem.MeetsSeq2 PySem.MeetsSeq3
end
section
variable {prog : Program} {w : World} {A : Around} {E : Value → Shared → Prop} {s : Shared}
def sIx (n d : Nat) : Option Int → Nat
  | none => d
  | some v => if v < 0 then (v + (n : Int)).toNat else min v.toNat n
theorem sIx_none (n d : Nat) : sIx n d none = d := rfl
theorem sIx_nat (n d k : Nat) : sIx n d (some (k : Int)) = min k n := by
  show (if (k : Int) < 0 then ((k : Int) + (n : Int)).toNat else min (k : Int).toNat n) = min k n
  rw [if_neg (by omega), Int.toNat_natCast]
end
end HT
namespace L2
open PySem PySem.Spec PyProof.Rows
abbrev TO := St → Hp → (Option Int → Hp → Prop) → Prop
def PO (X : Cx) (e : Option Expr) (t : TO) : Prop :=
  ∀ (pins : List (Addr × Obj)) (s : Shared) (σ : St) (H : Hp) (Q : Option Int → Hp → Prop), Inv X pins σ H s → t σ H Q →
    wpAny (model X.prog X.w) X.A (evalPart e X.env) (fun u s' => ∃ o H', Inv X pins σ H' s' ∧ IsPart u o ∧ Q o H') X.xe s
def tNoPart : TO := fun _ H Q => Q none H
def tPart (t : TE) : TO := fun σ H Q => t σ H fun x H1 => ∃ i, x = .int i ∧ Q (some i) H1
section
variable {X : Cx} {e : Expr} {te : TE} {lo hi : Option Expr} {tl th : TO} {pos p2 : Pos}
theorem po_none : PO X none tNoPart := by
  intro pins s σ H Q I h
  rw [evalPart_none]
  exact wpAny_pure ⟨none, H, I, .none, h⟩
theorem po_some (h : PE X e te) : PO X (some e) (tPart te) := by
  intro pins s σ H Q I hw
  rw [evalPart_some]
  refine thn (h pins s σ H _ I hw) fun u s1 ⟨x, H1, I1, r1, q1⟩ => ?_
  obtain ⟨i, rfl, q⟩ := q1
  obtain ⟨t, rfl⟩ := r1
  exact ⟨some i, H1, I1, .int i t, q⟩
def SlR (X : Cx) (r : V → Option Int → Option Int → Hp → VK → Prop) : Prop :=
  ∀ (pins : List (Addr × Obj)) (s : Shared) (σ : St) (H : Hp) (x : V) (v vl vu : Value) (lo hi : Option Int) (sl : Addr) (Q : VK), Inv X pins σ H s → RelV x v → s.heap.IsSliceOf sl vl vu .none → IsPart vl lo → IsPart vu hi → r x lo hi H Q →
    ∃ T id, typeLookup (.type T) "__getitem__" = pure (some (.builtin id)) ∧ s.TypeIs v T ∧ wpAny (model X.prog X.w) X.A (getItem v (.ref sl)) (EP X pins σ Q) X.xe s
def tSl (r : V → Option Int → Option Int → Hp → VK → Prop) (te : TE) (tl th : TO) : TE := fun σ H Q => te σ H fun x H1 => tl σ H1 fun l H2 => th σ H2 fun u H3 => r x l u H3 Q
theorem pe_slice {r : V → Option Int → Option Int → Hp → VK → Prop} (hr : SlR X r) (he : PE X e te) (hl : PO X lo tl) (hu : PO X hi th) : PE X (.Subscript e (.Slice lo hi none p2) pos) (tSl r te tl th) := by
  intro pins s σ H Q I h
  refine Subscript_ (thn (he pins s σ H _ I h) fun v s1 ⟨x, H1, I1, r1, q1⟩ => ?_)
  refine wpAny_Slice (thn (hl pins s1 σ H1 _ I1 q1) fun vl s2 ⟨l, H2, I2, pl, q2⟩ => thn (hu pins s2 σ H2 _ I2 q2) fun vu s3 ⟨u, H3, I3, pu, q3⟩ => ?_)
  rw [evalPart_none]
  refine wpAny_pure ?_
  have I4 : Inv X pins σ H3 { s3 with heap := s3.heap.push { cls := .type "slice", data := .fields #[vl, vu, .none] } } := I3.kept (t' := s3.toks) fun b ob q => Heap.get?_push_of_some _ q
  obtain ⟨T, id, hT, ht, hg⟩ := hr pins { s3 with heap := s3.heap.push { cls := .type "slice", data := .fields #[vl, vu, .none] } } σ H3 x v vl vu l u s3.heap.objs.size Q I4 r1 (Heap.IsSliceOf.new ..) pl pu q3
  show wpAny (model X.prog X.w) X.A (subscriptTail e (.Slice lo hi none p2) v (.ref s3.heap.objs.size)) (EP X pins σ Q) X.xe { s3 with heap := s3.heap.push { cls := .type "slice", data := .fields #[vl, vu, .none] } }
  exact tail_any (ops := [.ref s3.heap.objs.size, v]) ht hT hg (by with_unfolding_all rfl)
def cutV (xs : List V) (lo hi : Option Int) : List V := (xs.drop (HT.sIx xs.length 0 lo)).take (HT.sIx xs.length xs.length hi - HT.sIx xs.length 0 lo)
theorem cutV_length (xs : List V) (lo hi : Option Int) : (cutV xs lo hi).length ≤ xs.length := by
  unfold cutV
  rw [List.length_take, List.length_drop]
  omega
end
end L2
namespace L2
open PySem PySem.Spec PyProof.Rows
def ixN (n : Nat) (i : Int) : Option Nat := if 0 ≤ i then (if i < n then some i.toNat else none) else if -(n : Int) ≤ i then some (i + n).toNat else none
def atI {α : Type} (xs : List α) (i : Int) : Option α := (ixN xs.length i).bind fun j => xs[j]?
theorem ixN_seq {n : Nat} {i : Int} {j : Nat} (h : ixN n i = some j) : seqIndex? i n = some j ∧ j < n ∧ -(n : Int) ≤ i ∧ i < n := by
  unfold ixN at h
  by_cases h0 : 0 ≤ i
  · rw [if_pos h0] at h
    by_cases h1 : i < n
    · rw [if_pos h1] at h
      have e : i.toNat = j := Option.some.inj h
      exact ⟨by rw [seqIndex_of h0 h1, e], by omega, by omega, h1⟩
    · rw [if_neg h1] at h; cases h
  · rw [if_neg h0] at h
    by_cases h1 : -(n : Int) ≤ i
    · rw [if_pos h1] at h
      have e : (i + n).toNat = j := Option.some.inj h
      exact ⟨by rw [seqIndex_neg (by omega) h1, e], by omega, h1, by omega⟩
    · rw [if_neg h1] at h; cases h
theorem atI_get {α : Type} {xs : List α} {i : Int} {v : α} (h : atI xs i = some v) : ∃ j, seqIndex? i xs.length = some j ∧ xs[j]? = some v ∧ j < xs.length ∧ -(xs.length : Int) ≤ i ∧ i < xs.length := by
  unfold atI at h
  cases e : ixN xs.length i with
  | none => rw [e] at h; cases h
  | some j =>
    rw [e] at h
    obtain ⟨h1, h2, h3, h4⟩ := ixN_seq e
    exact ⟨j, h1, h, h2, h3, h4⟩
theorem atI_nat {α : Type} {xs : List α} {j : Nat} {v : α} (h : xs[j]? = some v) : atI xs (j : Int) = some v := by
  have hj : j < xs.length := (List.getElem?_eq_some_iff.mp h).1
  have e : ixN xs.length (j : Int) = some j := by
    unfold ixN
    rw [if_pos (by omega), if_pos (by omega)]; simp
  unfold atI; rw [e]; exact h
def PlainIx (b : Expr) : Prop := ∀ o i, subscripted b false o i = operate [o, i] (getItem o i)
def IxR (X : Cx) (r : R2) : Prop :=
  ∀ (value slice : Expr) (pins : List (Addr × Obj)) (s : Shared) (σ : St) (H : Hp) (x y : V) (v u : Value) (Q : VK), Inv X pins σ H s → RelV x v → RelV y u → r x y H Q →
    subscripted slice false v u = operate [v, u] (getItem v u) → wpAny (model X.prog X.w) X.A (subscriptTail value slice v u) (EP X pins σ Q) X.xe s
def MtR (X : Cx) (id : String) (r : V → List V → Hp → VK → Prop) : Prop :=
  ∀ (pins : List (Addr × Obj)) (s : Shared) (σ : St) (H : Hp) (x : V) (xs : List V) (v : Value) (us : List Value) (Q : VK), Inv X pins σ H s → RelV x v → Vals xs us → r x xs H Q →
    wpAny (model X.prog X.w) X.A (call (.builtin id) (v :: us)) (EP X pins σ Q) X.xe s
section
variable {X : Cx} {a b : Expr} {ta tb : TE} {pos : Pos}
theorem pe_ix {r : R2} (hr : IxR X r) (ha : PE X a ta) (hb : PE X b tb) (hs : PlainIx b) : PE X (.Subscript a b pos) (tOp r ta tb) := by
  intro pins s σ H Q I h
  exact Subscript_ (binT ha hb I h fun v u s2 x y H2 I2 rx ry q => hr a b pins s2 σ H2 x y v u Q I2 rx ry q (hs _ _))
def rIxL (K : PySem.W.Frag) : R2 := fun x y H Q => ∃ p xs i v, x = .ref p ∧ y = .int i ∧ SqL K H p xs ∧ atI xs i = some v ∧ Q v H
def rIxT (K : PySem.W.Frag) : R2 := fun x y H Q => ∃ p xs i v, x = .ref p ∧ y = .int i ∧ SqT K H p xs ∧ atI xs i = some v ∧ Q v H
def rIxS : R2 := fun x y H Q => ∃ z i c, x = .str z ∧ y = .int i ∧ z.length ≤ sizeLine ∧ atI z.cps.toList i = some c ∧ Q (.str ⟨#[c]⟩) H
theorem ix_list : IxR X (rIxL X.K) := by
  intro value slice pins s σ H x y v u Q I rx ry h hs
  obtain ⟨p, xs, i, z, rfl, rfl, hq, he, q⟩ := h
  cases rx
  obtain ⟨t, rfl⟩ := ry
  obtain ⟨its, r, pl, hz⟩ := I.list hq
  obtain ⟨j, h1, h2, h3, h4, h5⟩ := atI_get he
  obtain ⟨w, ew, rw'⟩ := r.get h2
  have hl := r.length
  have hn := line63
  have fin : EP X pins σ Q w s := ⟨z, H, I, rw', q⟩
  by_cases h0 : 0 ≤ i
  · have hj : i.toNat = j := by
      rw [seqIndex_of h0 h5] at h1
      exact Option.some.inj h1
    exact item_listR pl.isList h0 (by omega) (by rw [hj]; simpa using ew) fin hs
  · have hj : (i + (its.toArray.size : Int)).toNat = j := by
      rw [seqIndex_neg (by omega) h4] at h1
      rw [List.size_toArray, ← hl]
      exact Option.some.inj h1
    exact subscriptTail_builtinR (x := w) pl.isList.typeIs slot_list_getitem.lookup
      (wpAny_getItem_list_neg (Q := fun r s' => r = w ∧ EP X pins σ Q r s') pl.isList (by omega) (by rw [List.size_toArray] <;> omega) (by omega) (by rw [hj]; simpa using ew) ⟨rfl, fin⟩) hs
theorem ix_tup : IxR X (rIxT X.K) := by
  intro value slice pins s σ H x y v u Q I rx ry h hs
  obtain ⟨p, xs, i, z, rfl, rfl, hq, he, q⟩ := h
  cases rx
  obtain ⟨t, rfl⟩ := ry
  obtain ⟨its, r, pl, hz⟩ := I.tuple hq
  obtain ⟨j, h1, h2, h3, h4, h5⟩ := atI_get he
  obtain ⟨w, ew, rw'⟩ := r.get h2
  have hl := r.length
  have hn := line63
  have fin : EP X pins σ Q w s := ⟨z, H, I, rw', q⟩
  exact subscriptTail_builtinR (x := w) pl.typeIs slot_tuple_getitem.lookup
    (getItem_tuple (j := j) (Q := fun r s' => r = w ∧ EP X pins σ Q r s') pl (by omega) (by omega) (by rw [List.size_toArray, ← hl]; exact h1) (by simpa using ew) ⟨rfl, fin⟩) hs
theorem ix_str : IxR X rIxS := by
  intro value slice pins s σ H x y v u Q I rx ry h hs
  obtain ⟨z, i, c, rfl, rfl, hz, he, q⟩ := h
  obtain ⟨t, rfl⟩ := rx
  obtain ⟨t', rfl⟩ := ry
  obtain ⟨j, h1, h2, h3, h4, h5⟩ := atI_get he
  have hl : z.cps.toList.length = z.length := by simp [Str.length]
  rw [hl] at h1 h4 h5
  have hn := line63
  exact tail_any (typeIs_str s z t) slot_str_getitem.lookup (getItem_str (c := c) (by
    have e1 : decide (i < -(2 ^ 63 : Int)) = false := decide_eq_false (by omega)
    have e2 : decide (i ≥ 2 ^ 63) = false := decide_eq_false (by omega)
    rw [e1, e2, Bool.or_false]) (by rw [h1]; simpa using h2) ⟨.str ⟨#[c]⟩, H, I.tok _, ⟨_, rfl⟩, q⟩) hs
theorem slice_bounds (lo hi : Option Int) (n : Nat) : (sliceBounds lo hi none n).1 = ((HT.sIx n 0 lo : Nat) : Int) ∧ (sliceBounds lo hi none n).2.1 = ((HT.sIx n n hi : Nat) : Int) ∧ (sliceBounds lo hi none n).2.2 = 1 := by
  refine ⟨?_, ?_, rfl⟩
  · cases lo with
    | none => simp [sliceBounds, HT.sIx]
    | some i =>
      simp only [sliceBounds, HT.sIx, Option.getD_none, show (1 : Int) > 0 by decide, if_true]
      by_cases h : i < 0
      · simp only [h, if_true] <;> omega
      · simp only [h, if_false] <;> omega
  · cases hi with
    | none => simp [sliceBounds, HT.sIx]
    | some i =>
      simp only [sliceBounds, HT.sIx, Option.getD_none, show (1 : Int) > 0 by decide, if_true]
      by_cases h : i < 0
      · simp only [h, if_true] <;> omega
      · simp only [h, if_false] <;> omega
theorem slicePick_cut (its : List Value) (lo hi : Option Int) : slicePick its.toArray lo hi none = ((its.drop (HT.sIx its.length 0 lo)).take (HT.sIx its.length its.length hi - HT.sIx its.length 0 lo)).toArray := by
  obtain ⟨h1, h2, h3⟩ := slice_bounds lo hi its.toArray.size
  unfold slicePick
  rw [h1, h2, h3]
  simp only [sliceRange_one, pick_run, List.size_toArray] <;> rfl
def rSlL (K : PySem.W.Frag) : V → Option Int → Option Int → Hp → VK → Prop := fun x lo hi H Q => ∃ a xs, x = .ref a ∧ SqL K H a xs ∧ ∀ p, H p = none → Q (.ref p) (upd H p (.lst (cutV xs lo hi)))
theorem sl_list : SlR X (rSlL X.K) := by
  intro pins s σ H x v vl vu lo hi sl Q I rx hs pl pu h
  obtain ⟨a, xs, rfl, hx, q⟩ := h
  cases rx
  obtain ⟨its, r, ht, hz⟩ := I.list hx
  have hlen := r.length
  refine ⟨"list", _, slot_list_getitem.lookup, ht.isList.typeIs, ?_⟩
  refine wpAny_getItem_list_slice ht.isList hs pl pu .none (by simp) ?_ (by rw [List.size_toArray] <;> omega)
  rw [slicePick_cut, ← hlen]
  refine ⟨.ref s.heap.objs.size, _, I.laid (t' := s.toks) (o := .lst (cutV xs lo hi)) (fun b ob q => Heap.get?_push_of_some _ q) (Nat.le_refl _) ?_, rfl, q _ (I.hok.fresh (Nat.le_refl _))⟩
  exact ⟨Nat.le_trans (cutV_length xs lo hi) hz, _, 0, (r.drop (HT.sIx xs.length 0 lo)).take (HT.sIx xs.length xs.length hi - HT.sIx xs.length 0 lo), Heap.get?_push_size _ rfl⟩
def flatV : V → Bool
  | .non => true
  | .bl _ => true
  | .int _ => true
  | .str _ => true
  | _ => false
def eqV : V → V → Bool
  | .non, .non => true
  | .bl a, .bl b => a == b
  | .bl a, .int b => (if a then 1 else 0) == b
  | .int a, .bl b => a == (if b then 1 else 0)
  | .int a, .int b => a == b
  | .str a, .str b => a == b
  | _, _ => false
theorem eqAt_V {A : Around} {s : Shared} {y x : V} {u v : Value} (ry : RelV y u) (rx : RelV x v) (fy : flatV y = true) (fx : flatV x = true) : SeqAt.EqAt A s u v (eqV y x) := by
  cases y with
  | non =>
    cases ry
    cases x with
    | non => cases rx; exact SeqAt.EqAt.same _
    | bl b => cases rx; exact SeqAt.EqAt.none_bool b
    | int b => obtain ⟨t, rfl⟩ := rx; exact SeqAt.EqAt.none_int b t
    | str b => obtain ⟨t, rfl⟩ := rx; exact SeqAt.EqAt.none_str b t
    | _ => exact absurd (show false = true from fx) Bool.false_ne_true
  | bl a =>
    cases ry
    cases x with
    | non => cases rx; exact SeqAt.EqAt.bool_none a
    | bl b => cases rx; exact SeqAt.EqAt.bool_bool a b
    | int b => obtain ⟨t, rfl⟩ := rx; exact SeqAt.EqAt.bool_int a b t
    | str b => obtain ⟨t, rfl⟩ := rx; exact SeqAt.EqAt.bool_str a b t
    | _ => exact absurd (show false = true from fx) Bool.false_ne_true
  | int a =>
    obtain ⟨t', rfl⟩ := ry
    cases x with
    | non => cases rx; exact SeqAt.EqAt.int_none a t'
    | bl b => cases rx; exact SeqAt.EqAt.int_bool a t' b
    | int b => obtain ⟨t, rfl⟩ := rx; exact SeqAt.EqAt.int_int a t' b t
    | str b => obtain ⟨t, rfl⟩ := rx; exact SeqAt.EqAt.int_str a t' b t
    | _ => exact absurd (show false = true from fx) Bool.false_ne_true
  | str a =>
    obtain ⟨t', rfl⟩ := ry
    cases x with
    | non => cases rx; exact SeqAt.EqAt.str_none a t'
    | bl b => cases rx; exact SeqAt.EqAt.str_bool a t' b
    | int b => obtain ⟨t, rfl⟩ := rx; exact SeqAt.EqAt.str_int a t' b t
    | str b => obtain ⟨t, rfl⟩ := rx; exact SeqAt.EqAt.str_str a t' b t
    | _ => exact absurd (show false = true from fx) Bool.false_ne_true
  | _ => exact absurd (show false = true from fy) Bool.false_ne_true
def eqU (x : V) (u : Value) : Bool := match u with
  | .none => eqV .non x
  | .bool b => eqV (.bl b) x
  | .int i _ => eqV (.int i) x
  | .str z _ => eqV (.str z) x
  | _ => false
theorem eqU_of {x y : V} {u : Value} (r : RelV y u) (f : flatV y = true) : eqU x u = eqV y x := by
  cases y with
  | non => cases r; rfl
  | bl b => cases r; rfl
  | int i => obtain ⟨t, rfl⟩ := r; rfl
  | str z => obtain ⟨t, rfl⟩ := r; rfl
  | _ => exact absurd (show false = true from f) Bool.false_ne_true
theorem any_eqU {x : V} : ∀ {xs : List V} {us : List Value}, Vals xs us → xs.all flatV = true → us.any (eqU x) = xs.any fun y => eqV y x
  | _, _, .nil, _ => rfl
  | y :: xs, u :: us, .cons r t, f => by
    rw [List.all_cons, Bool.and_eq_true] at f
    rw [List.any_cons, List.any_cons, eqU_of r f.1, any_eqU t f.2]
theorem mem_eqAt {A : Around} {s : Shared} {x : V} {v : Value} (rx : RelV x v) (fx : flatV x = true) : ∀ {xs : List V} {us : List Value}, Vals xs us → xs.all flatV = true → ∀ u ∈ us, SeqAt.EqAt A s u v (eqU x u)
  | _, _, .nil, _ => fun u hu => by cases hu
  | y :: xs, u :: us, .cons r t, f => fun u' hu => by
    rw [List.all_cons, Bool.and_eq_true] at f
    rcases List.mem_cons.mp hu with rfl | hu
    · rw [eqU_of r f.1]; exact eqAt_V r rx f.1 fx
    · exact mem_eqAt rx fx t f.2 u' hu
def inV (x : V) (xs : List V) : Bool := xs.any fun y => eqV y x
def rIn (K : PySem.W.Frag) (neg : Bool) : R2 := fun x y H Q => ∃ p xs, y = .ref p ∧ (SqL K H p xs ∨ SqT K H p xs) ∧ flatV x = true ∧ xs.all flatV = true ∧ Q (.bl (if neg then !inV x xs else inV x xs)) H
theorem op_notIn_seq : OpR X (compareOp .NotIn) (rIn X.K true) := by
  intro pins s σ H x y v u Q I rx ry h
  obtain ⟨p, xs, rfl, hq, fx, fs, q⟩ := h
  cases ry
  rcases hq with hq | hq
  · obtain ⟨its, r, pl, hz⟩ := I.list hq
    refine SeqAt.notIn_listAt (eqU x) pl.isList (fun w hw => mem_eqAt rx fx r fs w (by simpa using hw)) ⟨.bl _, H, I, rfl, ?_⟩
    rw [show its.toArray.any (eqU x) = its.any (eqU x) by simp, any_eqU r fs]
    exact q
  · obtain ⟨its, r, pl, hz⟩ := I.tuple hq
    refine SeqAt.notIn_tupleAt (eqU x) pl (fun w hw => mem_eqAt rx fx r fs w (by simpa using hw)) ⟨.bl _, H, I, rfl, ?_⟩
    rw [show its.toArray.any (eqU x) = its.any (eqU x) by simp, any_eqU r fs]
    exact q
theorem call_len_seq : CallR X (.builtin "len") (fun xs H Q => ∃ p ys, xs = [.ref p] ∧ (SqL X.K H p ys ∨ SqT X.K H p ys) ∧ Q (.int ys.length) H) := by
  intro pins s σ H xs us Q I r h
  obtain ⟨p, ys, rfl, hq, q⟩ := h
  obtain ⟨u, rfl, rx⟩ := vals1 r
  cases rx
  have hn := line63
  rcases hq with hq | hq
  · obtain ⟨its, r', pl, hz⟩ := I.list hq
    have hlen := r'.length
    exact Calls.call_len_list pl.isList (by simp only [List.size_toArray] <;> omega) ⟨.int ys.length, H, I.tok _, ⟨s.toks + 1, by rw [List.size_toArray, hlen]⟩, q⟩
  · obtain ⟨its, r', pl, hz⟩ := I.tuple hq
    have hlen := r'.length
    exact len_tuple pl (by simp only [List.size_toArray] <;> omega) ⟨.int ys.length, H, I.tok _, ⟨s.toks + 1, by rw [List.size_toArray, hlen]⟩, q⟩
theorem call_len_str : CallR X (.builtin "len") (fun xs H Q => ∃ z, xs = [.str z] ∧ z.length ≤ sizeLine ∧ Q (.int z.length) H) := by
  intro pins s σ H xs us Q I r h
  obtain ⟨z, rfl, hz, q⟩ := h
  obtain ⟨u, rfl, t, rfl⟩ := vals1 r
  have hn := line63
  exact len_str (by omega) ⟨.int z.length, H, I.tok _, ⟨_, rfl⟩, q⟩
def tyV (K : PySem.W.Frag) (T : String) (x : V) (H : Hp) : Prop := match x with
  | .str _ => T = "str"
  | .int _ => T = "int"
  | .ref p => (T = "list" ∧ ∃ xs, SqL K H p xs) ∨ (T = "tuple" ∧ ∃ o, K.lookup p = some o ∧ o.cls = .type "tuple" ∧ o.dict = none) ∨
      (T = "dict" ∧ ((∃ kvs, H p = some (.dK kvs)) ∨ ∃ kvs, H p = some (.dT kvs))) ∨ (T = "set" ∧ ∃ S n, H p = some (.set S n))
  | _ => False
theorem tyV_is {pins : List (Addr × Obj)} {σ : St} {H : Hp} {s : Shared} {T : String} {x : V} {v : Value} (I : Inv X pins σ H s) (r : RelV x v) (ty : tyV X.K T x H) :
    s.TypeIs v T ∧ ∀ a, v = .ref a → ∃ ob, s.heap.get? a = some ob ∧ ob.dict = none := by
  cases x with
  | str z =>
    obtain ⟨t, rfl⟩ := r
    cases (show T = "str" from ty)
    exact ⟨typeIs_str s z t, fun _ e => nomatch e⟩
  | int i =>
    obtain ⟨t, rfl⟩ := r
    cases (show T = "int" from ty)
    exact ⟨typeIs_int s i t, fun _ e => nomatch e⟩
  | ref p =>
    cases r
    rcases ty with ⟨rfl, xs, hq⟩ | ⟨rfl, o, hk, hc, hd⟩ | ⟨rfl, hk⟩ | ⟨rfl, S, n, hk⟩
    · obtain ⟨its, _, pl, _⟩ := I.list hq
      refine ⟨pl.isList.typeIs, fun a e => ?_⟩
      cases e
      obtain ⟨o, n, e, c, hd, _⟩ := pl
      exact ⟨o, e, hd⟩
    · refine ⟨⟨o, I.kIn p o hk, hc⟩, fun a e => ?_⟩
      cases e
      exact ⟨o, I.kIn _ o hk, hd⟩
    · have z : ∃ o, s.heap.get? p = some o ∧ o.ExactDict := by
        rcases hk with ⟨kvs, hk⟩ | ⟨kvs, hk⟩
        · obtain ⟨_, _, _, _, o, _, _, e, ex, _⟩ := I.hok p _ hk
          exact ⟨o, e, ex⟩
        · obtain ⟨_, _, _, _, o, _, _, e, ex, _⟩ := I.hok p _ hk
          exact ⟨o, e, ex⟩
      obtain ⟨o, e, ex⟩ := z
      refine ⟨⟨o, e, ex.1⟩, fun a e2 => ?_⟩
      cases e2
      exact ⟨o, e, ex.2.1⟩
    · obtain ⟨o, _, _, _, e, ex, _⟩ := I.hok p _ hk
      refine ⟨⟨o, e, ex.1⟩, fun a e2 => ?_⟩
      cases e2
      exact ⟨o, e, ex.2.1⟩
  | _ => exact False.elim ty
def tBM0 (K : PySem.W.Frag) (T : String) (r : V → List V → Hp → VK → Prop) (to : TE) : TE := fun σ H Q => to σ H fun x H1 => tyV K T x H1 ∧ r x [] H1 Q
def tBM (K : PySem.W.Frag) (T : String) (r : V → List V → Hp → VK → Prop) (to : TE) (t : TA) : TE := fun σ H Q => to σ H fun x H1 => tyV K T x H1 ∧ t σ H1 fun xs H2 => r x xs H2 Q
variable {o e : Expr} {es : List Expr} {to : TE} {t : TA} {name : Str} {apos cpos : Pos} {T id : String} {r : V → List V → Hp → VK → Prop}
theorem pe_bm0 (pa : PlainAttrs T) (slot : Slot T name id) (hty : typeOf (.builtin id) = pure (.type "method_descriptor")) (hm : MtR X id r) (ho : PE X o to)
    (hbase : attributeBase o name X.env (eval o X.env) = eval o X.env := by rfl) (hline : (apos.endLine == cpos.line) = true := by rfl) : PE X (.Call (.Attribute o name apos) [] [] cpos) (tBM0 X.K T r to) := by
  intro pins s σ H Q I h
  refine wpAny_Call_method0_late hbase hline (thn (ho pins s σ H _ I h) fun v s1 ⟨x, H1, I1, r1, ty, q1⟩ => ?_)
  obtain ⟨h1, h2⟩ := tyV_is I1 r1 ty
  exact ⟨T, id, pa, slot, hty, h1, h2, Calls.callWith_builtin rfl (PySem.evalArgs_none (hm pins s1 σ H1 x [] v [] Q I1 r1 .nil q1))⟩
theorem pe_bm (pa : PlainAttrs T) (slot : Slot T name id) (hty : typeOf (.builtin id) = pure (.type "method_descriptor")) (hm : MtR X id r) (ho : PE X o to) (ha : PA X (e :: es) t)
    (hbase : attributeBase o name X.env (eval o X.env) = eval o X.env := by rfl)
    (hfew : ((backTo cpos (starEach (e :: es) X.env)).all (fun x => !x.1) && (backToKw cpos (keywordEach [] X.env)).all (fun x => x.1.isSome)
      && decide ((e :: es).length + ([] : List Keyword).length + (if ([] : List Keyword).isEmpty then 0 else 1) < 30)) = true := by rfl)
    (hline : (apos.endLine == cpos.line) = true := by rfl) (hs : starEach (e :: es) X.env = (false, eval e X.env) :: starEach es X.env := by rfl) (hplain : (backTo cpos (starEach es X.env)).any (·.1) = false := by rfl) :
    PE X (.Call (.Attribute o name apos) (e :: es) [] cpos) (tBM X.K T r to t) := by
  intro pins s σ H Q I h
  refine wpAny_Call_method_late hbase hfew hline rfl (thn (ho pins s σ H _ I h) fun v s1 ⟨x, H1, I1, r1, ty, q1⟩ => ?_)
  obtain ⟨h1, h2⟩ := tyV_is I1 r1 ty
  refine ⟨T, id, pa, slot, hty, h1, h2, ?_⟩
  have hA := ha cpos pins s1 σ H1 _ I1 q1
  rw [hs] at hA ⊢
  refine Calls.callWith_builtin (by show (false || (backTo cpos (starEach es X.env)).any (·.1)) = false; rw [hplain] <;> rfl) (Calls.evalArgs_plain ?_)
  exact thn hA fun us s2 ⟨vs, H2, I2, r2, q2⟩ => hm pins s2 σ H2 x vs v us Q I2 r1 r2 q2
end
end L2
namespace L2
open PySem PySem.Spec PyProof.Rows
def MtM (X : Cx) (id : String) (r : V → List V → Hp → VK → Prop) : Prop :=
  ∀ (pins : List (Addr × Obj)) (s : Shared) (σ : St) (H : Hp) (x : V) (xs : List V) (v : Value) (us : List Value) (Q : VK), Inv X pins σ H s → RelV x v → Vals xs us → r x xs H Q →
    wpAny (model X.prog X.w) X.A (call (.builtin id) (v :: us)) (EP X pins σ Q) X.xe s
theorem Vals.one : ∀ {x : V} {us : List Value}, Vals [x] us → ∃ u, us = [u] ∧ RelV x u
  | _, _, .cons r .nil => ⟨_, rfl, r⟩
theorem Vals.zero : ∀ {us : List Value}, Vals [] us → us = []
  | _, .nil => rfl
theorem Vals.dropLast {xs : List V} {us : List Value} (h : Vals xs us) : Vals xs.dropLast us.dropLast := by
  induction h with
  | nil => exact .nil
  | cons r t ih =>
    cases t with
    | nil => exact .nil
    | cons q t' => exact .cons r ih
theorem erase_last {α : Type} (l : List α) : l.eraseIdx (l.length - 1) = l.dropLast := by
  induction l with
  | nil => rfl
  | cons a r ih =>
    cases r with
    | nil => rfl
    | cons b r =>
      have e : (a :: b :: r).length - 1 = ((b :: r).length - 1) + 1 := by
        have h1 : (a :: b :: r).length = r.length + 2 := rfl
        have h2 : (b :: r).length = r.length + 1 := rfl
        omega
      rw [e, List.eraseIdx_cons_succ, ih]
      all_goals rfl
section
variable {X : Cx} {pins : List (Addr × Obj)} {σ : St} {H : Hp} {s : Shared} {l b : Addr} {xs ys zs : List V}
theorem Inv.lset {its its' : List Value} {n : Nat} {f : Array Value → Array Value} {t' : Nat} (I : Inv X pins σ H s) (hH : H l = some (.lst xs))
    (e : s.heap.get? l = some { cls := .type "list", data := .seq its.toArray n }) (hf : f its.toArray = its'.toArray) (hv : Vals ys its') (hz : ys.length ≤ sizeLine) :
    Inv X pins σ (upd H l (.lst ys)) { s with heap := s.heap.update l (Obj.mapSeq f), toks := t' } := by
  have q := PySem.IsL.update e f
  rw [hf] at q
  refine I.write (x := l) (e := l) (by rw [hH]; exact trivial) (.inl rfl) (fun b' u hb hu => (Heap.get?_update_other s.heap (Obj.mapSeq f) (Ne.symm hb)).trans hu) ⟨_, q⟩ ?_
  exact ⟨hz, its', _, hv, q⟩
theorem Inv.lnew {its : List Value} {t' : Nat} (I : Inv X pins σ H s) (hv : Vals ys its) (hz : ys.length ≤ sizeLine) :
    Inv X pins σ (upd H s.heap.objs.size (.lst ys)) { s with heap := s.heap.push { cls := .type "list", data := .seq its.toArray }, toks := t' } :=
  I.laid (fun _ _ q => Heap.get?_push_of_some _ q) (Nat.le_refl _) ⟨hz, its, 0, hv, Heap.get?_push_size _ rfl⟩
theorem Inv.fresh (I : Inv X pins σ H s) : H s.heap.objs.size = none := I.hok.fresh (Nat.le_refl _)
theorem Inv.lstM (I : Inv X pins σ H s) (hH : H l = some (.lst xs)) : xs.length ≤ sizeLine ∧ ∃ (its : List Value) (n : Nat), Vals xs its ∧ xs.length = its.length ∧ s.heap.get? l = some { cls := .type "list", data := .seq its.toArray n } := by
  obtain ⟨z, its, n, r, e⟩ := I.hok l _ hH
  exact ⟨z, its, n, r, r.length, e⟩
end
section
variable {X : Cx}
def rAppend : V → List V → Hp → VK → Prop := fun x vs H Q => ∃ l xs y, x = .ref l ∧ vs = [y] ∧ H l = some (.lst xs) ∧ xs.length < sizeLine ∧ Q .non (upd H l (.lst (xs ++ [y])))
theorem mt_append : MtM X "list.append" rAppend := by
  intro pins s σ H x vs v us Q I rx rv h
  obtain ⟨l, xs, y, rfl, rfl, hH, hz, q⟩ := h
  cases rx
  obtain ⟨u, rfl, ru⟩ := rv.one
  obtain ⟨z, its, n, r, hl, e⟩ := I.lstM hH
  refine call_meets F.slot_list_append ⟨_, e, rfl⟩ F.entry_list_append (F.args_list_append_2 _ _) (PySem.list_append l its.toArray n u (by rw [List.size_toArray]; omega)) ⟨e, ?_⟩
  refine ⟨.non, _, I.lset (its' := its ++ [u]) hH e (by simp) (r.append (.cons ru .nil)) ?_, rfl, q⟩
  rw [List.length_append, List.length_singleton]
  omega
def rPop : V → List V → Hp → VK → Prop := fun x vs H Q => ∃ l xs y, x = .ref l ∧ vs = [] ∧ H l = some (.lst xs) ∧ xs[xs.length - 1]? = some y ∧ Q y (upd H l (.lst xs.dropLast))
theorem mt_pop : MtM X "list.pop" rPop := by
  intro pins s σ H x vs v us Q I rx rv h
  obtain ⟨l, xs, y, rfl, rfl, hH, hy, q⟩ := h
  cases rx
  have hus := rv.zero
  subst hus
  obtain ⟨z, its, n, r, hl, e⟩ := I.lstM hH
  obtain ⟨u, hu, ru⟩ := r.get hy
  have hy' : its.toArray[its.toArray.size - 1]? = some u := by
    show its.toArray[its.length - 1]? = some u
    rw [← Array.getElem?_toList, ← hl]
    exact hu
  refine call_meets F.slot_list_pop ⟨_, e, rfl⟩ F.entry_list_pop (F.args_list_pop_1 _) (MeetsSeq.list_pop_last l its.toArray n u hy' (by rw [List.size_toArray]; omega)) ⟨e, ?_⟩
  refine ⟨y, _, I.lset (its' := its.dropLast) hH e ?_ r.dropLast ?_, ru, q⟩
  · show its.toArray.eraseIdxIfInBounds (its.toArray.size - 1) = its.dropLast.toArray
    rw [List.size_toArray, List.eraseIdxIfInBounds_toArray, erase_last]
  · rw [List.length_dropLast]
    omega
def rCat : R2 := fun x y H Q => ∃ l b xs zs, x = .ref l ∧ y = .ref b ∧ H l = some (.lst xs) ∧ H b = some (.lst zs) ∧ xs.length + zs.length ≤ sizeLine ∧ ∀ p, H p = none → Q (.ref p) (upd H p (.lst (xs ++ zs)))
theorem op_cat : OpR X (binaryOp .Add) rCat := by
  intro pins s σ H x y v u Q I rx ry h
  obtain ⟨l, b, xs, zs, rfl, rfl, hH, hB, hz, q⟩ := h
  cases rx
  cases ry
  obtain ⟨z, its, n, r, hl, e⟩ := I.lstM hH
  obtain ⟨z2, its2, n2, r2, hl2, e2⟩ := I.lstM hB
  refine PySem.P.add_list e e2 ?_ (by rw [List.size_toArray, List.size_toArray]; omega)
  have ea : its.toArray ++ its2.toArray = (its ++ its2).toArray := by simp
  rw [ea]
  exact ⟨.ref _, _, I.lnew (t' := s.toks) (r.append r2) (by rw [List.length_append]; omega), rfl, q _ I.fresh⟩
end
section
variable {prog : Program} {w : World} {A : Around} {E : Value → Shared → Prop} {s : Shared}
set_option maxRecDepth 100000 in
end
end L2
namespace L2
open PySem PySem.Spec PyProof.Rows
end L2
namespace L2
open PySem PySem.Spec PyProof.Rows
abbrev CellAt (h : Heap) (c : Addr) (v : Option Value) : Prop := h.IsCell c v
def relS (scope sc : Scope) : Scope :=
  { scope with names := scope.names.map fun (n, k) => if (k == .free && sc.kind == .function && sc.names.lookup n == some .cell) then (n, .cell) else (n, k) }
def cloFrom (cells : List (Str × Addr)) : List (Str × NameKind) → List (Str × Addr) → List (Str × Addr)
  | [], acc => acc
  | (n, k) :: r, acc => if k == .free then cloFrom cells r ((n, (cells.lookup n).getD 0) :: acc) else cloFrom cells r acc
theorem closure_loop (env : Env) (f : Str × NameKind → List (Str × Addr) → Sem (ForInStep (List (Str × Addr))))
    (hf : ∀ n k c, f (n, k) c = if k == .free then (do let a ← cellOf env n; pure (.yield ((n, a) :: c))) else pure (.yield c)) :
    ∀ (names : List (Str × NameKind)) (acc : List (Str × Addr)), (∀ y ∈ names, y.2 = .free → ∃ c, env.cells.lookup y.1 = some c) → forIn names acc f = pure (cloFrom env.cells names acc)
  | [], acc, _ => by rw [List.forIn_nil]; rfl
  | (n, k) :: r, acc, h => by
    rw [List.forIn_cons, hf]
    have ih := fun acc => closure_loop env f hf r acc fun y hy => h y (List.mem_cons_of_mem _ hy)
    unfold cloFrom
    by_cases hk : (k == NameKind.free) = true
    · rw [if_pos hk, if_pos hk]
      obtain ⟨c, hc⟩ := h (n, k) List.mem_cons_self (by simpa using hk)
      have e : cellOf env n = pure c := by unfold cellOf; rw [hc]
      rw [e]
      have e2 : (env.cells.lookup n).getD 0 = c := by rw [hc]; rfl
      rw [e2]
      exact ih _
    · rw [if_neg hk, if_neg hk]
      exact ih _
theorem closure_ok {scope : Scope} {env : Env} (h : ∀ y ∈ scope.names, y.2 = .free → ∃ c, env.cells.lookup y.1 = some c) : closureFor scope env = pure (cloFrom env.cells scope.names []) := by
  simp only [closureFor]
  rw [closure_loop env _ (fun n k c => rfl) scope.names [] h]
  rfl
theorem mem_lookup {α : Type} : ∀ {l : List (Str × α)} {n : Str} {c : α}, (n, c) ∈ l → ∃ c', l.lookup n = some c'
  | (k, v) :: r, n, c, h => by
    rw [List.lookup_cons]
    cases hb : n == k with
    | true => exact ⟨_, rfl⟩
    | false =>
      rcases List.mem_cons.mp h with e | h
      · cases e; simp at hb
      · exact mem_lookup h
theorem cloFrom_mem {cells : List (Str × Addr)} : ∀ {names : List (Str × NameKind)} {acc : List (Str × Addr)} {n : Str} {c : Addr}, (n, c) ∈ cloFrom cells names acc → (n, c) ∈ acc ∨ ((n, .free) ∈ names ∧ c = (cells.lookup n).getD 0)
  | [], _, _, _, h => .inl h
  | (m, k) :: r, acc, n, c, h => by
    unfold cloFrom at h
    split at h
    · rename_i hk
      have hk : k = .free := by simpa using hk
      rcases cloFrom_mem h with h | ⟨h1, h2⟩
      · rcases List.mem_cons.mp h with e | h
        · cases e; exact .inr ⟨hk ▸ List.mem_cons_self, rfl⟩
        · exact .inl h
      · exact .inr ⟨List.mem_cons_of_mem _ h1, h2⟩
    · rcases cloFrom_mem h with h | ⟨h1, h2⟩
      · exact .inl h
      · exact .inr ⟨List.mem_cons_of_mem _ h1, h2⟩
theorem cloFrom_acc {cells : List (Str × Addr)} : ∀ {names : List (Str × NameKind)} {acc : List (Str × Addr)} {p : Str × Addr}, p ∈ acc → p ∈ cloFrom cells names acc
  | [], _, _, h => h
  | (m, k) :: r, acc, p, h => by
    unfold cloFrom
    split
    · exact cloFrom_acc (List.mem_cons_of_mem _ h)
    · exact cloFrom_acc h
theorem cloFrom_has {cells : List (Str × Addr)} : ∀ {names : List (Str × NameKind)} {acc : List (Str × Addr)} {n : Str}, (n, .free) ∈ names → (n, (cells.lookup n).getD 0) ∈ cloFrom cells names acc
  | (m, k) :: r, acc, n, h => by
    unfold cloFrom
    rcases List.mem_cons.mp h with e | h
    · cases e
      exact cloFrom_acc List.mem_cons_self
    · split
      · exact cloFrom_has h
      · exact cloFrom_has h
theorem cells_mem : ∀ {names : List (Str × NameKind)} {h : Heap} {acc : List (Str × Addr)} {x : Str} {c : Addr}, (x, c) ∈ cellsFrom h.objs.size names acc →
    (x, c) ∈ acc ∨ ((x, .cell) ∈ names ∧ h.objs.size ≤ c ∧ CellAt (pushCells h names) c none)
  | [], _, _, _, _, h => .inl h
  | (n, k) :: r, h, acc, x, c, hm => by
    unfold cellsFrom at hm
    unfold pushCells
    split at hm
    · rename_i hk
      rw [if_pos hk]
      have hk : k = .cell := by simpa using hk
      rw [← Heap.size_push h { cls := .type "cell", data := .cell none }] at hm
      rcases cells_mem hm with hm | ⟨h1, h2, h3⟩
      · rcases List.mem_cons.mp hm with e | hm
        · cases e
          exact .inr ⟨hk ▸ List.mem_cons_self, Nat.le_refl _, _, pushCells_keeps r _ _ _ (Heap.get?_push_size _ rfl), rfl⟩
        · exact .inl hm
      · rw [Heap.size_push] at h2
        exact .inr ⟨List.mem_cons_of_mem _ h1, Nat.le_of_succ_le h2, h3⟩
    · rename_i hk
      rw [if_neg hk]
      rcases cells_mem hm with hm | ⟨h1, h2, h3⟩
      · exact .inl hm
      · exact .inr ⟨List.mem_cons_of_mem _ h1, h2, h3⟩
theorem cells_acc : ∀ {names : List (Str × NameKind)} {n : Nat} {acc : List (Str × Addr)} {p : Str × Addr}, p ∈ acc → p ∈ cellsFrom n names acc
  | [], _, _, _, h => h
  | (m, k) :: r, n, acc, p, h => by
    unfold cellsFrom
    split
    · exact cells_acc (List.mem_cons_of_mem _ h)
    · exact cells_acc h
theorem cells_has : ∀ {names : List (Str × NameKind)} {n : Nat} {acc : List (Str × Addr)} {x : Str}, (x, .cell) ∈ names → ∃ c, (x, c) ∈ cellsFrom n names acc
  | (m, k) :: r, n, acc, x, h => by
    unfold cellsFrom
    rcases List.mem_cons.mp h with e | h
    · cases e
      exact ⟨n, cells_acc List.mem_cons_self⟩
    · split
      · exact cells_has h
      · exact cells_has h
theorem cells_inj : ∀ {names : List (Str × NameKind)} {h : Heap} {acc : List (Str × Addr)} {x y : Str} {c : Addr}, (∀ p ∈ acc, p.2 < h.objs.size) → (∀ x y c, (x, c) ∈ acc → (y, c) ∈ acc → x = y) →
    (x, c) ∈ cellsFrom h.objs.size names acc → (y, c) ∈ cellsFrom h.objs.size names acc → x = y
  | [], _, _, _, _, _, _, hi, h1, h2 => hi _ _ _ h1 h2
  | (n, k) :: r, h, acc, x, y, c, hl, hi, h1, h2 => by
    unfold cellsFrom at h1 h2
    split at h1
    · rename_i hk
      rw [if_pos hk] at h2
      rw [← Heap.size_push h { cls := .type "cell", data := .cell none }] at h1 h2
      refine cells_inj (h := h.push _) (fun p hp => ?_) (fun x y c a b => ?_) h1 h2
      · rw [Heap.size_push]
        rcases List.mem_cons.mp hp with rfl | hp
        · exact Nat.lt_succ_self _
        · exact Nat.lt_succ_of_lt (hl p hp)
      · rcases List.mem_cons.mp a with e | a <;> rcases List.mem_cons.mp b with e' | b
        · cases e; cases e'; rfl
        · cases e; exact absurd (hl _ b) (Nat.lt_irrefl _)
        · cases e'; exact absurd (hl _ a) (Nat.lt_irrefl _)
        · exact hi _ _ _ a b
    · rename_i hk
      rw [if_neg hk] at h2
      exact cells_inj hl hi h1 h2
theorem newEnv_comp {M : Model} {A : Around} {E : Value → Shared → Prop} {s : Shared} {scope : Scope} {globals : Addr} {closure : List (Str × Addr)} {qual : Str} {func : Option Addr} {code : Value} {around : Env} {builtins : Addr} {Q : Env → Shared → Prop}
    (h : Q (newEnv scope s.heap.objs.size globals (cellsFrom (s.heap.objs.size + 1) scope.names closure) qual func code (some around) builtins)
      { s with heap := pushCells (s.heap.push { cls := .type "dict", data := .dict #[] }) scope.names }) :
    wpAny M A (newFunctionEnv scope globals closure [] qual func code (some around) builtins) Q E s := by
  simp only [newFunctionEnv, Option.isSome_some, if_true]
  refine wpAny_bind (wpAny_alloc ?_)
  refine wpAny_bind (wpAny_layCells _ (fun n k c => rfl) scope.names closure _ _ ?_)
  rw [show ({ s with heap := s.heap.push { cls := .type "dict", data := .dict #[] } } : Shared).heap.objs.size = s.heap.objs.size + 1 from Heap.size_push ..]
  rw [List.forIn_nil]
  exact wpAny_bind (wpAny_pure (wpAny_pure h))
theorem lookup_relS {sc : Scope} : ∀ {names : List (Str × NameKind)} {x : Str} {k : NameKind},
    (names.map fun (n, k) => if (k == NameKind.free && sc.kind == .function && sc.names.lookup n == some .cell) then (n, NameKind.cell) else (n, k)).lookup x = some k →
    ∃ k', names.lookup x = some k' ∧ (k = k' ∨ (k' = .free ∧ k = .cell))
  | [], _, _, h => by simp at h
  | (n, k₀) :: r, x, k, h => by
    have ih := @lookup_relS sc r x k
    have h' : List.lookup x ((if (k₀ == NameKind.free && sc.kind == .function && sc.names.lookup n == some .cell) = true then (n, NameKind.cell) else (n, k₀)) :: (r.map _)) = some k := h
    cases hx : x == n with
    | true =>
      simp only [List.lookup_cons, hx]
      by_cases hc : (k₀ == NameKind.free && sc.kind == .function && sc.names.lookup n == some .cell) = true
      · rw [if_pos hc] at h'
        simp only [List.lookup_cons, hx] at h'
        cases h'
        simp only [Bool.and_eq_true, beq_iff_eq] at hc
        exact ⟨k₀, rfl, .inr ⟨hc.1.1, rfl⟩⟩
      · rw [if_neg hc] at h'
        simp only [List.lookup_cons, hx] at h'
        cases h'
        exact ⟨_, rfl, .inl rfl⟩
    | false =>
      simp only [List.lookup_cons, hx]
      by_cases hc : (k₀ == NameKind.free && sc.kind == .function && sc.names.lookup n == some .cell) = true
      · rw [if_pos hc] at h'
        simp only [List.lookup_cons, hx] at h'
        exact ih h'
      · rw [if_neg hc] at h'
        simp only [List.lookup_cons, hx] at h'
        exact ih h'
structure BlkOk (N : List Str) (sc scope : Scope) (own : List (Str × Nat)) : Prop where
  kind : scope.kind = .function
  uniq : ∀ y ∈ scope.names, scope.names.lookup y.1 = some y.2
  ix : ∀ p ∈ own, N[p.2]? = some p.1
  free : ∀ y ∈ scope.names, y.2 = .free → sc.names.lookup y.1 = some .cell ∨ sc.names.lookup y.1 = some .free
  own : ∀ y ∈ scope.names, y.2 = .local ∨ y.2 = .cell → y.1 ∈ own.map (·.1) ∨ y.1 ∉ N
def wipe (σ : St) : List Nat → St
  | [] => σ
  | v :: vs => (wipe σ vs).set v none
theorem wipe_length (σ : St) : ∀ vs : List Nat, (wipe σ vs).length = σ.length
  | [] => rfl
  | v :: vs => by unfold wipe; rw [List.length_set, wipe_length σ vs]
theorem wipe_some {σ : St} {i : Nat} {x : V} : ∀ {vs : List Nat}, (wipe σ vs)[i]? = some (some x) → σ[i]? = some (some x) ∧ i ∉ vs
  | [], h => ⟨h, by simp⟩
  | v :: vs, h => by
    unfold wipe at h
    by_cases hi : v = i
    · subst hi
      by_cases hv : v < (wipe σ vs).length
      · rw [List.getElem?_set_self hv] at h; cases h
      · rw [List.getElem?_eq_none (by simpa using hv)] at h; cases h
    · rw [List.getElem?_set_ne hi] at h
      obtain ⟨h1, h2⟩ := wipe_some h
      exact ⟨h1, by simp only [List.mem_cons, not_or]; exact ⟨fun e => hi e.symm, h2⟩⟩
abbrev Cx.blk (X : Cx) (s : Shared) (H : Hp) (scope : Scope) (cenv : Env) (fp : List Addr) : Cx := { X with s_0 := s, H_0 := H, env := cenv, outer := X.stack, ex := fp, fn := fun x => scope.names.lookup x == some .cell, pn := [], xe := fun _ _ => False }
section
variable {X : Cx} {pins : List (Addr × Obj)} {σ : St} {H : Hp} {s : Shared}
theorem block_start {scope : Scope} {own : List (Str × Nat)} {fp : List Addr} (I : Inv X pins σ H s) (ok : BlkOk X.N X.env.scope scope own) (hN : X.N.Nodup) (hfp : ∀ b ∈ fp, FpOk X pins H b ∧ b < s.heap.objs.size) :
    Inv (X.blk s H scope (compEnvC scope (cellsFrom (s.heap.objs.size + 1) scope.names (cloFrom X.env.cells scope.names [])) s.heap.objs.size X.env) fp) [] (wipe σ (own.map (·.2))) H { s with heap := pushCells (s.heap.push { cls := .type "dict", data := .dict #[] }) scope.names } := by
  have hfree : ∀ y ∈ scope.names, y.2 = .free → ∃ c, X.env.cells.lookup y.1 = some c := fun y hy e => by
    rcases ok.free y hy e with k | k
    · exact I.ok.has _ (.inl k)
    · exact I.ok.has _ (.inr k)
  generalize hcenv : compEnvC scope (cellsFrom (s.heap.objs.size + 1) scope.names (cloFrom X.env.cells scope.names [])) s.heap.objs.size X.env = cenv
  have kp : ∀ b o, s.heap.get? b = some o → (pushCells (s.heap.push { cls := .type "dict", data := .dict #[] }) scope.names).get? b = some o := fun b o e => pushCells_keeps _ _ _ _ (Heap.get?_push_of_some _ e)
  have hL : cenv.locals = s.heap.objs.size := by rw [← hcenv]; rfl
  have hcl : cenv.cells = cellsFrom (s.heap.objs.size + 1) scope.names (cloFrom X.env.cells scope.names []) := by rw [← hcenv]; rfl
  have hsc : cenv.scope = relS scope X.env.scope := by rw [← hcenv]; rfl
  rw [← Heap.size_push s.heap { cls := .type "dict", data := .dict #[] }] at hcl
  have cm : ∀ {y c}, (y, c) ∈ cloFrom X.env.cells scope.names [] → X.env.cells.lookup y = some c ∧ c < s.heap.objs.size := fun {y c} hm => by
    rcases cloFrom_mem hm with hm | ⟨h1, rfl⟩
    · cases hm
    · obtain ⟨c, hc⟩ := hfree _ h1 rfl
      rw [hc]
      obtain ⟨w, z⟩ := I.cell _ _ hc
      exact ⟨rfl, z.lt⟩
  have mem : ∀ {y c}, cenv.cells.lookup y = some c → (X.env.cells.lookup y = some c ∧ c < s.heap.objs.size) ∨ (s.heap.objs.size + 1 ≤ c ∧ CellAt (pushCells (s.heap.push { cls := .type "dict", data := .dict #[] }) scope.names) c none) := fun {y c} e => by
    rw [hcl] at e
    rcases cells_mem (PySem.mem_of_lookup e) with hm | ⟨_, h2, h3⟩
    · exact .inl (cm hm)
    · rw [Heap.size_push] at h2; exact .inr ⟨h2, h3⟩
  have look : ∀ {y}, scope.names.lookup y = some .free → ∃ c, cenv.cells.lookup y = some c ∧ X.env.cells.lookup y = some c := fun {y} hl => by
    have hy : (y, NameKind.free) ∈ scope.names := PySem.mem_of_lookup hl
    obtain ⟨c', e'⟩ := mem_lookup (cells_acc (names := scope.names) (n := (s.heap.push { cls := .type "dict", data := .dict #[] }).objs.size) (cloFrom_has (cells := X.env.cells) (acc := []) hy))
    rw [← hcl] at e'
    refine ⟨c', e', ?_⟩
    rw [hcl] at e'
    rcases cells_mem (PySem.mem_of_lookup e') with hm | ⟨h1, _, _⟩
    · exact (cm hm).1
    · have := ok.uniq _ h1
      rw [hl] at this; cases this
  have okB : (X.blk s H scope cenv fp).Ok := by
    refine ⟨I.ok.mod, by show cenv.scope.kind = _; rw [hsc]; exact ok.kind, by show cenv.globals = _; rw [← hcenv]; exact I.ok.glob, by show cenv.builtins = _; rw [← hcenv]; exact I.ok.blt, by show s.heap.objs.size ≤ cenv.locals; rw [hL]; exact Nat.le_refl _,
      fun y z c e1 e2 => ?_, fun y hy => ?_, fun y c z e => ?_, I.ok.hd, I.ok.frames, .inl rfl, fun b hb => ⟨?_, fun y c e z => ?_⟩, I.bs, Nat.le_trans I.ok.bsz I.sz, fun b o e hb => ?_, fun b hb z => ?_, I.stack, I.stkFree⟩
    · have e1 : cenv.cells.lookup y = some c := e1
      have e2 : cenv.cells.lookup z = some c := e2
      rw [hcl] at e1 e2
      refine cells_inj (fun p hp => ?_) (fun y z c a b => I.ok.inj y z c (cm a).1 (cm b).1) (PySem.mem_of_lookup e1) (PySem.mem_of_lookup e2)
      rw [Heap.size_push]
      exact Nat.lt_succ_of_lt (cm (y := p.1) (c := p.2) hp).2
    · show ∃ c, cenv.cells.lookup y = some c
      have key : ∀ k, cenv.kindOf y = some k → (k = .cell ∨ k = .free) → ∃ c, cenv.cells.lookup y = some c := fun k hk hk' => by
        unfold Env.kindOf at hk
        rw [hsc] at hk
        obtain ⟨k', e, r⟩ := lookup_relS hk
        have : k' = .cell ∨ k' = .free := by
          rcases r with rfl | ⟨rfl, _⟩
          · exact hk'
          · exact .inr rfl
        rcases this with rfl | rfl
        · obtain ⟨c, hm⟩ := cells_has (n := (s.heap.push { cls := .type "dict", data := .dict #[] }).objs.size) (acc := cloFrom X.env.cells scope.names []) (PySem.mem_of_lookup e)
          obtain ⟨c', e'⟩ := mem_lookup hm
          exact ⟨c', by rw [hcl]; exact e'⟩
        · obtain ⟨c, h1, _⟩ := look e
          exact ⟨c, h1⟩
      rcases hy with hy | hy
      · exact key _ hy (.inl rfl)
      · exact key _ hy (.inr rfl)
    · have z : (scope.names.lookup y == some NameKind.cell) = true := z
      have z : scope.names.lookup y = some .cell := by simpa using z
      have e : cenv.cells.lookup y = some c := e
      rw [hcl] at e
      rcases cells_mem (PySem.mem_of_lookup e) with hm | ⟨_, h2, _⟩
      · rcases cloFrom_mem hm with hm | ⟨h1, _⟩
        · cases hm
        · have q := ok.uniq _ h1
          rw [z] at q; cases q
      · rw [Heap.size_push] at h2
        exact Nat.le_of_succ_le h2
    · show b ≠ cenv.locals
      rw [hL]; exact Nat.ne_of_lt (hfp b hb).2
    · have e : cenv.cells.lookup y = some c := e
      rcases mem e with ⟨h1, _⟩ | ⟨h1, _⟩
      · exact (hfp b hb).1.2.2.2.2.1 y c h1 z
      · have h2 : s.heap.objs.size + 1 ≤ b := by rw [← z]; exact h1
        exact absurd (Nat.lt_of_lt_of_le (hfp b hb).2 (Nat.le_of_succ_le h2)) (Nat.lt_irrefl _)
    · rcases (hfp b hb).1.2.2.2.1 with z | z
      · exact I.ok.noex b o e z
      · exact absurd (Nat.lt_of_lt_of_le (Heap.lt_size e) (Nat.le_trans I.ok.bsz z)) (Nat.lt_irrefl _)
    · rcases List.mem_cons.mp (I.stkSub b z) with z | z
      · exact (hfp b hb).1.2.1 z
      · exact (hfp b hb).1.2.2.1 z
  refine ⟨okB, rfl, I.bare, Un.kept kp, ⟨fun _ => none, ?_, fun i y av e1 e2 e3 => ?_⟩, fun y c e => ?_, ?_, fun y c e => ?_, fun p hp => ?_, I.hok.kept kp, by rw [wipe_length]; exact I.len⟩
  · show Heap.Ns _ cenv.locals _
    rw [hL]
    exact Heap.Ns.keeps (Heap.Ns.new ..) fun b o e => pushCells_keeps _ _ _ _ e
  · obtain ⟨e2, hne⟩ := wipe_some e2
    have hfr : scope.names.lookup y = some .free ∧ (cenv.kindOf y = some .cell ∨ cenv.kindOf y = some .free) := by
      have key : ∀ k, cenv.scope.names.lookup y = some k → k = .local ∨ k = .cell ∨ k = .free → scope.names.lookup y = some .free ∧ (cenv.kindOf y = some .cell ∨ cenv.kindOf y = some .free) := fun k hk hk' => by
        have hk0 := hk
        rw [hsc] at hk
        obtain ⟨k', e, r⟩ := lookup_relS hk
        have no : ¬ (k' = .local ∨ k' = .cell) := fun hh => by
          rcases ok.own _ (PySem.mem_of_lookup e) hh with e' | e'
          · obtain ⟨p, hp, hpy⟩ := List.mem_map.mp e'
            have e3 := ok.ix p hp
            have : p.1 = y := hpy
            rw [this] at e3
            exact hne (List.mem_map.mpr ⟨p, hp, nodup_ix hN e3 e1⟩)
          · exact e' (List.mem_of_getElem? e1)
        rcases r with rfl | ⟨rfl, rfl⟩
        · rcases hk' with rfl | rfl | rfl
          · exact absurd (.inl rfl) no
          · exact absurd (.inr rfl) no
          · exact ⟨e, .inr hk0⟩
        · exact ⟨e, .inl hk0⟩
      have e3 : Vis cenv.scope y := e3
      rcases e3 with e3 | e3 | e3
      · exact key _ e3 (.inl rfl)
      · exact key _ e3 (.inr (.inl rfl))
      · exact key _ e3 (.inr (.inr rfl))
    obtain ⟨m, hn, hl⟩ := I.loc
    have hvis : Vis X.env.scope y := (ok.free _ (PySem.mem_of_lookup hfr.1) rfl).elim (fun k => .inr (.inl k)) (fun k => .inr (.inr k))
    obtain ⟨w, r, q⟩ := hl i y av e1 e2 hvis
    refine ⟨w, r, .inr ⟨hfr.2, ?_⟩⟩
    obtain ⟨c, h1, h2⟩ := look hfr.1
    rcases q with ⟨k, _⟩ | ⟨_, c', e', z⟩
    · have k : X.env.scope.names.lookup y = some .local := k
      rcases ok.free _ (PySem.mem_of_lookup hfr.1) rfl with k' | k' <;> rw [show X.env.scope.names.lookup y = _ from k'] at k <;> cases k
    · rw [h2] at e'; cases e'
      exact ⟨c, h1, z.keeps kp⟩
  · have e : cenv.cells.lookup y = some c := e
    rcases mem e with ⟨h1, _⟩ | ⟨_, z⟩
    · obtain ⟨w, z⟩ := I.cell y c h1
      exact ⟨w, z.keeps kp⟩
    · exact ⟨_, z⟩
  · show H cenv.locals = none
    rw [hL]; exact I.hok.fresh (Nat.le_refl _)
  · have e : cenv.cells.lookup y = some c := e
    rcases mem e with ⟨h1, _⟩ | ⟨h1, _⟩
    · exact I.freeC y c h1
    · exact I.hok.fresh (Nat.le_of_succ_le h1)
  · exact absurd (show p ∈ ([] : List (Addr × Obj)) ++ [] from hp) (by simp)
theorem app_ok {E : Value → Shared → Prop} {D : Addr} {xs : List V} {y : V} {v : Value} {Q : Value → Shared → Prop} (I : Inv X pins σ H s) (hD : H D = some (.lst xs)) (hz : xs.length < sizeLine) (r : RelV y v)
    (h : ∀ s', Inv X pins σ (upd H D (.lst (xs ++ [y]))) s' → Q .none s') : wpAny (model X.prog X.w) X.A (call (.builtin "list.append") [.ref D, v]) Q E s := by
  obtain ⟨hz', its, n, ri, e⟩ := I.hok D _ hD
  have hl := ri.length
  refine append_at (hsz := by rw [List.size_toArray]; omega) e fun h' sb ho' => ?_
  refine h { s with heap := h' } (I.write (t' := s.toks) (by rw [hD]; trivial) (.inl rfl) (fun b u hb q => (sb.2 b hb).trans q) ⟨_, ho'⟩ ⟨by rw [List.length_append]; exact hz, its ++ [v], n + 1, ri.append (.cons r .nil), ?_⟩)
  rw [ho']
  simp
def PTs (X : Cx) (ifs : List Expr) (t : TT) : Prop :=
  ∀ (pins : List (Addr × Obj)) (s : Shared) (σ : St) (H : Hp) (Q : Bool → Hp → Prop), Inv X pins σ H s → t σ H Q →
    wpAny (model X.prog X.w) X.A (forIn ifs true fun c r => if r = true then do let ok ← isTrue c X.env (eval c X.env); pure (ForInStep.yield ok) else pure (ForInStep.yield r)) (TP X pins σ Q) X.xe s
def tYes : TT := fun _ H Q => Q true H
theorem pts_nil : PTs X [] tYes := fun _ _ _ H _ I h => wpAny_tests_nil ⟨H, I, h⟩
theorem pts_one {c : Expr} {t : TT} (h : PT X c t) : PTs X [c] t := fun pins s σ H Q I hw => wpAny_tests_one (h pins s σ H Q I hw)
end
theorem thnF {α : Type} {t : Sem α} {Q Q' : α → Shared → Prop} {M : Model} {A : Around} {E : Value → Shared → Prop} {s : Shared} (h : wpAny M A t Q (fun _ _ => False) s) (hQ : ∀ a s, Q a s → Q' a s) : wpAny M A t Q' E s := wpAny_mono h hQ fun _ _ z => False.elim z
theorem compLoop_any {prog : Program} {w : World} {A : Around} {R : Result → Shared → Prop} {s : Shared} {elt target iter : Expr} {ifs : List Expr} {scope : Scope} {pos : Pos} {it acc : Value} {env : Env} (I : Nat → Shared → Prop)
    (turn : ∀ n s, I n s → wpAny (model prog w) A (pyNext it) (fun r s₁ => match r with
      | none => R (.ok .next) s₁
      | some v => wpAny (model prog w) A (letOwnedTupleGo target it v) (fun _ s₁' => wpAny (model prog w) A (assign target env v) (fun _ s₂ =>
          wpAny (model prog w) A (forIn ifs true fun c r => if r = true then do let ok ← isTrue c env (eval c env); pure (ForInStep.yield ok) else pure (ForInStep.yield r)) (fun ok s₃ =>
            if ok = true then wpAny (model prog w) A (eval elt env) (fun x s₄ =>
              wpAny (model prog w) A (call (.builtin "list.append") [acc, x]) (fun _ s₅ => ∃ m, m < n ∧ I m s₅) (notedBy (model prog w) A env fun e s' => R (.error e) s') s₄) (notedBy (model prog w) A env fun e s' => R (.error e) s') s₃
            else ∃ m, m < n ∧ I m s₃) (notedBy (model prog w) A env fun e s' => R (.error e) s') s₂) (notedBy (model prog w) A env fun e s' => R (.error e) s') s₁') (notedBy (model prog w) A env fun e s' => R (.error e) s') s₁) (notedBy (model prog w) A env fun e s' => R (.error e) s') s)
    (n : Nat) (h : I n s) :
    codeAny (model prog w) A (.compLoop (.ListComp elt [⟨target, iter, ifs, 0⟩] scope pos) 0 it acc env) R s := by
  refine codeAny_loop rfl I (fun n s hI => ?_) n h
  show wpAny _ A ((compTurn (.ListComp elt [⟨target, iter, ifs, 0⟩] scope pos) 0 it acc env).onRaise (fun x => do noteFrame x env; theTreesLotGoes x)) _ _ s
  refine wpAny_noted ?_
  rw [compTurn_list]
  refine wpAny_bind (wpAny_standAt (wpAny_bind (wpAny_mono (turn n s hI) (fun r s₁ h₁ => ?_) fun _ _ h' => h')))
  cases r with
  | none => exact wpAny_pure h₁
  | some v =>
    refine wpAny_bind (wpAny_mono h₁ (fun _ s₁' h₁' => ?_) fun _ _ h' => h')
    refine wpAny_bind (wpAny_mono h₁' (fun _ s₂ h₂ => wpAny_bind (wpAny_mono h₂ (fun ok s₃ h₃ => ?_) fun _ _ h' => h')) fun _ _ h' => h')
    cases ok with
    | false => exact wpAny_pure ⟨rfl, h₃⟩
    | true =>
      exact wpAny_bind (wpAny_bind (wpAny_mono h₃ (fun x s₄ h₄ => wpAny_bind (wpAny_mono h₄ (fun _ s₅ h₅ => wpAny_pure (wpAny_pure ⟨rfl, h₅⟩)) fun _ _ h' => h')) fun _ _ h' => h'))
section
variable {X : Cx}
def tLc (wi : TI) (g : TG) (tt : TT) (te : TE) (vs : List Nat) : TE := fun σ H Q => wi σ H fun J H1 => ∀ D, H1 D = none → ∃ W : Nat → Nat → Hp → Prop, (∃ m, W 0 m (upd H1 D (.lst []))) ∧ ∀ i m H, W i m H →
  (J.stop i H ∧ Q (.ref D) H) ∨ (J.go i H ∧ ∃ Nx : Hp → Prop, (∀ H', Nx H' → ∃ m', m' < m ∧ W (i + 1) m' H') ∧ ∀ x H', J.yld i H x H' → g x (wipe σ vs) H' fun σ2 H2 => wipe σ2 vs = wipe σ vs ∧ tt σ2 H2 fun b H3 =>
    if b = true then te σ2 H3 fun y H4 => ∃ acc, H4 D = some (.lst acc) ∧ acc.length < sizeLine ∧ Nx (upd H4 D (.lst (acc ++ [y]))) else Nx H3)
theorem lc_core {pins : List (Addr × Obj)} {s : Shared} {σ : St} {H : Hp} {Q : VK} {elt tg iter : Expr} {ifs : List Expr} {scope : Scope} {own : List (Str × Nat)} {pos pos' : Pos} {wi : TI} {g : TG} {tt : TT} {te : TE} {use : Option (Value → Sem Unit)} {Qf : Value → Shared → Prop}
    (hc : X.calm = true) (hN : X.N.Nodup) (I : Inv X pins σ H s) (hi : PI X tg iter wi) (ok : BlkOk X.N X.env.scope scope own)
    (hg : ∀ (s : Shared) (H : Hp) (C : Addr) (cl : List (Str × Addr)) (fp : List Addr), PG (X.blk s H scope (compEnvC scope cl C X.env) fp) tg g) (ht : ∀ (s : Shared) (H : Hp) (C : Addr) (cl : List (Str × Addr)) (fp : List Addr), PTs (X.blk s H scope (compEnvC scope cl C X.env) fp) ifs tt)
    (he : ∀ (s : Shared) (H : Hp) (C : Addr) (cl : List (Str × Addr)) (fp : List Addr), PE (X.blk s H scope (compEnvC scope cl C X.env) fp) elt te) (hs : ∀ x, foldedSetIterable iter X.env x = pure x)
    (h : tLc wi g tt te (own.map (·.2)) σ H Q)
    (hRR : ∀ D C s' m H', Inv X pins σ H' s' → Q (.ref D) H' → s'.heap.Ns C m → FpOk X pins H' C → compPost (model X.prog X.w) X.A X.xe use Qf (.ref D) C (.ok .next) s') :
    wpAny (model X.prog X.w) X.A (comprehension (.ListComp elt [⟨tg, iter, ifs, 0⟩] scope pos) scope X.env pos' (newList []) false (eval iter X.env) use) Qf X.xe s := by
  have hfree : ∀ y ∈ scope.names, y.2 = .free → ∃ c, X.env.cells.lookup y.1 = some c := fun y hy e => by
    rcases ok.free y hy e with k | k
    · exact I.ok.has _ (.inl k)
    · exact I.ok.has _ (.inr k)
  refine wpAny_comprehension_free (use := use) rfl hs (closure_ok hfree) ok.kind (fun y hy e => by rw [ok.uniq y hy, e])
    (thn (hi pins s σ H _ I h) fun xv s1 hx => thn hx fun itv s2 h2 => ?_)
  obtain ⟨it, fp, tn, J, H2, e, I2, T, st2, f2, q⟩ := h2
  subst e
  refine wpAny_newObj_type (newEnv_comp ?_) (by show 0 ≤ sizeLine; decide)
  generalize hD : s2.heap.objs.size = D
  have hDn : H2 D = none := I2.hok.fresh (Nat.le_of_eq hD)
  obtain ⟨W, ⟨m0, w0⟩, turn⟩ := q D hDn
  -- the new list
  generalize hs3 : ({ s2 with heap := s2.heap.push { cls := .type "list", data := .seq ([] : List Value).toArray } } : Shared) = s3
  have I3 : Inv X pins σ (upd H2 D (.lst [])) s3 := by
    rw [← hs3]
    refine I2.laid (t' := s2.toks) (fun b o e => Heap.get?_push_of_some _ e) (Nat.le_of_eq hD) ⟨Nat.zero_le _, [], 0, .nil, ?_⟩
    rw [← hD]
    exact Heap.get?_push_size _ rfl
  have h3 : s3.heap = s2.heap.push { cls := .type "list", data := .seq ([] : List Value).toArray } := by rw [← hs3]
  have sz : ∀ b ∈ fp, b < s2.heap.objs.size := fun b hb => by
    obtain ⟨o, e, _⟩ := T.obj _ _ st2 b hb
    exact Heap.lt_size e
  have f3 : ∀ b ∈ fp, FpOk X pins (upd H2 D (.lst [])) b ∧ b < s3.heap.objs.size := fun b hb => by
    have hlt := sz b hb
    refine ⟨⟨?_, (f2 b hb).2⟩, by rw [h3, Heap.size_push]; exact Nat.lt_succ_of_lt hlt⟩
    rw [upd_ne (by rw [← hD]; exact Nat.ne_of_lt hlt)]
    exact (f2 b hb).1
  have st3 : tn 0 s3.heap := T.keep _ _ _ st2 fun b _ o e => by rw [h3]; exact Heap.get?_push_of_some _ e
  have I4 := block_start I3 ok hN f3
  have pg := hg s3 (upd H2 D (.lst [])) s3.heap.objs.size (cellsFrom (s3.heap.objs.size + 1) scope.names (cloFrom X.env.cells scope.names [])) fp
  have pt := ht s3 (upd H2 D (.lst [])) s3.heap.objs.size (cellsFrom (s3.heap.objs.size + 1) scope.names (cloFrom X.env.cells scope.names [])) fp
  have pe := he s3 (upd H2 D (.lst [])) s3.heap.objs.size (cellsFrom (s3.heap.objs.size + 1) scope.names (cloFrom X.env.cells scope.names [])) fp
  show codeAny _ _ (.compStart (.ListComp elt [⟨tg, iter, ifs, 0⟩] scope pos) 0 (.ref it) (.ref D) (compEnvC scope (cellsFrom (s3.heap.objs.size + 1) scope.names (cloFrom X.env.cells scope.names [])) s3.heap.objs.size X.env)) (compPost (model X.prog X.w) X.A X.xe use Qf (.ref D) s3.heap.objs.size) { s3 with heap := pushCells (s3.heap.push { cls := .type "dict", data := .dict #[] }) scope.names }
  have nfp : ∀ b ∈ fp, (upd H2 D (.lst [])) b = none := fun b hb => (f3 b hb).1.1
  generalize hce : compEnvC scope (cellsFrom (s3.heap.objs.size + 1) scope.names (cloFrom X.env.cells scope.names [])) s3.heap.objs.size X.env = ce at I4 pg pt pe ⊢
  have cL : ce.locals = s3.heap.objs.size := by subst hce; rfl
  generalize hH3 : upd H2 D (.lst []) = H3 at I3 I4 pg pt pe w0 nfp f3
  generalize hs4 : ({ s3 with heap := pushCells (s3.heap.push { cls := .type "dict", data := .dict #[] }) scope.names } : Shared) = s4 at I4 ⊢
  have st4 : tn 0 s4.heap := T.keep _ _ _ st3 fun b _ o e => by rw [← hs4]; exact pushCells_keeps _ _ _ _ (Heap.get?_push_of_some _ e)
  have stat : ∀ {σ' : St} {H' : Hp} {s' : Shared}, Inv (X.blk s3 H3 scope ce fp) [] σ' H' s' → (∀ b ∈ fp, H' b = none) → ∀ b ∈ fp, FpOk (X.blk s3 H3 scope ce fp) [] H' b := fun {σ' H' s'} I' hn b hb =>
    ⟨hn b hb, (I'.ok.exf b hb).1, I'.ok.exfs b hb, .inl hb, fun x c e => (I'.ok.exf b hb).2 x c e, fun p hp => absurd (show p ∈ ([] : List (Addr × Obj)) ++ [] from hp) (by simp)⟩
  have loop : codeAny (model X.prog X.w) X.A (.compLoop (.ListComp elt [⟨tg, iter, ifs, 0⟩] scope pos) 0 (.ref it) (.ref D) ce) (compPost (model X.prog X.w) X.A X.xe use Qf (.ref D) s3.heap.objs.size) s4 := by
    refine compLoop_any (fun n s' => ∃ i H', Inv (X.blk s3 H3 scope ce fp) [] (wipe σ (own.map (·.2))) H' s' ∧ tn i s'.heap ∧ (∀ b ∈ fp, H' b = none) ∧ W i n H') ?_ m0 ⟨0, H3, I4, st4, nfp, w0⟩
    rintro n s5 ⟨i, H5, I5, st5, n5, w5⟩
    rcases turn i n H5 w5 with ⟨stop, qq⟩ | ⟨go, Nx, hNx, step⟩
    · have td := T.done (X.blk s3 H3 scope ce fp) rfl rfl rfl hc i [] s5 _ H5 (fun _ _ => False) I5 (stat I5 n5) st5 stop
      refine thnF td fun r s6 ⟨hr, I6⟩ => ?_
      subst hr
      -- back in the def's context
      have I7 : Inv X pins σ H5 s6 := I3.call' (ch := fp) I6.os I6.base I6.hok I6.bare fun b hb => ⟨(f3 b hb).1.2.2.2.1, (f3 b hb).1.2.1, (f3 b hb).1.2.2.2.2.1, (f3 b hb).1.2.2.2.2.2⟩
      have nC : H5 s3.heap.objs.size = none := by
        have z : H5 ce.locals = none := I6.free
        rw [cL] at z
        exact z
      obtain ⟨m, hn, _⟩ := I6.loc
      have hn : s6.heap.Ns ce.locals m := hn
      rw [cL] at hn
      exact hRR D s3.heap.objs.size s6 m H5 I7 qq hn (I3.fpOk (Nat.le_refl _) nC)
    · have ti := T.item (X.blk s3 H3 scope ce fp) rfl rfl rfl hc i [] s5 _ H5 (fun _ _ => False) I5 (stat I5 n5) st5 go
      refine thnF ti fun r s6 ⟨u, hr, h6⟩ => ?_
      subst hr
      refine thnF h6 fun _ s7 ⟨x, H7, I7, r7, y7, st7, n7⟩ => ?_
      have I7' := I7.pinned (stat I7 n7) (T.obj _ _ st7)
      refine thnF (pg _ s7 _ H7 x u _ I7' r7 (step x H7 y7)) fun _ s8 ⟨σ8, H8, I8, hw8, q8⟩ => ?_
      refine thnF (pt _ s8 σ8 H8 _ I8 q8) fun b s9 ⟨H9, I9, q9⟩ => ?_
      -- the turn's end
      have fin : ∀ {s' : Shared} {H' : Hp}, Inv (X.blk s3 H3 scope ce fp) ([] ++ pinsAt fp s7.heap) σ8 H' s' → Nx H' → ∃ m, m < n ∧ ∃ i H', Inv (X.blk s3 H3 scope ce fp) [] (wipe σ (own.map (·.2))) H' s' ∧ tn i s'.heap ∧ (∀ b ∈ fp, H' b = none) ∧ W i m H' := fun {s' H'} I' nx => by
        obtain ⟨m', hm, w'⟩ := hNx H' nx
        have pin' : ∀ b ∈ fp, ∀ o, s7.heap.get? b = some o → s'.heap.get? b = some o ∧ H' b = none := fun b hb o e =>
          let z := I'.pin (b, o) (List.mem_append_right _ (List.mem_append_right _ (mem_pinsAt hb e)))
          ⟨z.1, z.2.1⟩
        have hl : (wipe σ (own.map (·.2))).length = σ8.length := by rw [← hw8, wipe_length]
        refine ⟨m', hm, i + 1, H', (I'.unpinned (pins := [])).weak hl (fun j v e => ?_), T.keep _ _ _ st7 fun b hb o e => (pin' b hb o e).1, fun b hb => ?_, w'⟩
        · rw [← hw8] at e
          exact (wipe_some e).1
        · obtain ⟨o, e, _⟩ := T.obj _ _ st7 b hb
          exact (pin' b hb o e).2
      cases b with
      | false =>
        simp only [Bool.false_eq_true, if_false] at q9 ⊢
        exact fin I9 q9
      | true =>
        simp only [if_true] at q9 ⊢
        refine thnF (pe _ s9 σ8 H9 _ I9 q9) fun z s10 ⟨yv, H10, I10, r10, acc, hD10, hz10, nx⟩ => ?_
        exact app_ok (X := X.blk s3 H3 scope ce fp) I10 hD10 hz10 r10 fun s11 I11 => fin I11 nx
  exact codeAny_compStart_list loop (T.self X.A 0 _ _ _ st4 loop)
theorem pe_lc {elt tg iter : Expr} {ifs : List Expr} {scope : Scope} {own : List (Str × Nat)} {pos : Pos} {wi : TI} {g : TG} {tt : TT} {te : TE} (hc : X.calm = true) (hN : X.N.Nodup) (hi : PI X tg iter wi) (ok : BlkOk X.N X.env.scope scope own)
    (hg : ∀ (s : Shared) (H : Hp) (C : Addr) (cl : List (Str × Addr)) (fp : List Addr), PG (X.blk s H scope (compEnvC scope cl C X.env) fp) tg g) (ht : ∀ (s : Shared) (H : Hp) (C : Addr) (cl : List (Str × Addr)) (fp : List Addr), PTs (X.blk s H scope (compEnvC scope cl C X.env) fp) ifs tt)
    (he : ∀ (s : Shared) (H : Hp) (C : Addr) (cl : List (Str × Addr)) (fp : List Addr), PE (X.blk s H scope (compEnvC scope cl C X.env) fp) elt te) (hs : ∀ x, foldedSetIterable iter X.env x = pure x := by intro _; rfl) :
    PE X (.ListComp elt [⟨tg, iter, ifs, 0⟩] scope pos) (tLc wi g tt te (own.map (·.2))) := by
  intro pins s σ H Q I h
  rw [eval_ListComp]
  refine lc_core hc hN I hi ok hg ht he hs h fun D C s' m H' I' q hn f => ⟨m, hn, fun h'' sb => ?_⟩
  obtain ⟨f0, f1, f2, f3, f4, f5⟩ := f
  exact ⟨.ref D, H', I'.turned (t' := s'.toks) (fun b o hb e => (sb.2 b hb).trans e) f0 f1 f3 f4 f5, rfl, q⟩
end
theorem lc_range {lo : Int} {n : Nat} {g : TG} {tt : TT} {te : TE} {vs : List Nat} {σ : St} {H1 : Hp} {D : Addr} {Qd : Hp → Prop} (Pv : Nat → Hp → Prop) (h0 : Pv 0 (upd H1 D (.lst [])))
    (hs : ∀ i H, i < n → Pv i H → g (.int (lo + i)) (wipe σ vs) H fun σ2 H2 => wipe σ2 vs = wipe σ vs ∧ tt σ2 H2 fun b H3 =>
      if b = true then te σ2 H3 fun y H4 => ∃ acc, H4 D = some (.lst acc) ∧ acc.length < sizeLine ∧ Pv (i + 1) (upd H4 D (.lst (acc ++ [y]))) else Pv (i + 1) H3) (hd : ∀ H, Pv n H → Qd H) :
    ∃ W : Nat → Nat → Hp → Prop, (∃ m, W 0 m (upd H1 D (.lst []))) ∧ ∀ i m H, W i m H →
      ((Itr lo n).stop i H ∧ Qd H) ∨ ((Itr lo n).go i H ∧ ∃ Nx : Hp → Prop, (∀ H', Nx H' → ∃ m', m' < m ∧ W (i + 1) m' H') ∧ ∀ x H', (Itr lo n).yld i H x H' → g x (wipe σ vs) H' fun σ2 H2 => wipe σ2 vs = wipe σ vs ∧ tt σ2 H2 fun b H3 =>
        if b = true then te σ2 H3 fun y H4 => ∃ acc, H4 D = some (.lst acc) ∧ acc.length < sizeLine ∧ Nx (upd H4 D (.lst (acc ++ [y]))) else Nx H3) := by
  refine ⟨fun i m H => m = n - i ∧ i ≤ n ∧ Pv i H, ⟨n, by simp, Nat.zero_le _, h0⟩, ?_⟩
  rintro i m H ⟨rfl, hi, p⟩
  by_cases hlt : i < n
  · refine .inr ⟨hlt, Pv (i + 1), fun H' p' => ⟨n - (i + 1), by omega, rfl, hlt, p'⟩, fun x H' y => ?_⟩
    obtain ⟨e, y⟩ := y
    subst e y
    exact hs i _ hlt p
  · have e : i = n := by omega
    subst e
    exact .inl ⟨Nat.le_refl _, hd H p⟩
theorem lc_list {K : PySem.W.Frag} {a : Addr} {xs : List V} {g : TG} {tt : TT} {te : TE} {vs : List Nat} {σ : St} {H1 : Hp} {D : Addr} {Qd : Hp → Prop} (Pv : Nat → Hp → Prop) (h0 : Pv 0 (upd H1 D (.lst []))) (hl : ∀ i H, i ≤ xs.length → Pv i H → SqL K H a xs)
    (hs : ∀ i x H, xs[i]? = some x → Pv i H → g x (wipe σ vs) H fun σ2 H2 => wipe σ2 vs = wipe σ vs ∧ tt σ2 H2 fun b H3 =>
      if b = true then te σ2 H3 fun y H4 => ∃ acc, H4 D = some (.lst acc) ∧ acc.length < sizeLine ∧ Pv (i + 1) (upd H4 D (.lst (acc ++ [y]))) else Pv (i + 1) H3) (hd : ∀ H, Pv xs.length H → Qd H) :
    ∃ W : Nat → Nat → Hp → Prop, (∃ m, W 0 m (upd H1 D (.lst []))) ∧ ∀ i m H, W i m H →
      ((Itl K a).stop i H ∧ Qd H) ∨ ((Itl K a).go i H ∧ ∃ Nx : Hp → Prop, (∀ H', Nx H' → ∃ m', m' < m ∧ W (i + 1) m' H') ∧ ∀ x H', (Itl K a).yld i H x H' → g x (wipe σ vs) H' fun σ2 H2 => wipe σ2 vs = wipe σ vs ∧ tt σ2 H2 fun b H3 =>
        if b = true then te σ2 H3 fun y H4 => ∃ acc, H4 D = some (.lst acc) ∧ acc.length < sizeLine ∧ Nx (upd H4 D (.lst (acc ++ [y]))) else Nx H3) := by
  refine ⟨fun i m H => m = xs.length - i ∧ i ≤ xs.length ∧ Pv i H, ⟨xs.length, by simp, Nat.zero_le _, h0⟩, ?_⟩
  rintro i m H ⟨rfl, hi, p⟩
  have q := hl i H hi p
  by_cases hlt : i < xs.length
  · refine .inr ⟨⟨xs, xs[i], q, by simp [hlt]⟩, Pv (i + 1), fun H' p' => ⟨xs.length - (i + 1), by omega, rfl, hlt, p'⟩, fun x H' y => ?_⟩
    obtain ⟨e, y⟩ := y
    subst e
    exact hs i x _ (y xs q) p
  · have e : i = xs.length := by omega
    subst e
    exact .inl ⟨⟨xs, q, Nat.le_refl _⟩, hd H p⟩
def blkC (N : List Str) (sc scope : Scope) (own : List (Str × Nat)) : Bool :=
  (match scope.kind with | .function => true | _ => false) && (scope.names.all fun y => decide (scope.names.lookup y.1 = some y.2)) && (own.all fun p => decide (N[p.2]? = some p.1)) &&
    (scope.names.all fun y => match y.2 with
      | .free => (match sc.names.lookup y.1 with | some .cell => true | some .free => true | _ => false)
      | .local => decide (y.1 ∈ own.map (·.1)) || decide (y.1 ∉ N)
      | .cell => decide (y.1 ∈ own.map (·.1)) || decide (y.1 ∉ N)
      | _ => true)
theorem blkOk_by {N : List Str} {sc scope : Scope} {own : List (Str × Nat)} (h : blkC N sc scope own = true) : BlkOk N sc scope own := by
  unfold blkC at h
  simp only [Bool.and_eq_true, List.all_eq_true, decide_eq_true_eq] at h
  obtain ⟨⟨⟨h1, h2⟩, h3⟩, h4⟩ := h
  refine ⟨?_, h2, h3, fun y hy e => ?_, fun y hy e => ?_⟩
  · split at h1
    · assumption
    · cases h1
  · have q := h4 y hy
    simp only [e] at q
    split at q <;> first | exact .inl (by assumption) | exact .inr (by assumption) | cases q
  · have q := h4 y hy
    rcases e with e | e <;> (simp only [e, Bool.or_eq_true, decide_eq_true_eq] at q; exact q)
end L2
namespace L2
open PySem PySem.Spec PyProof.Rows
end L2
namespace L2
open PySem PySem.Spec PyProof.Rows
section
variable {κ : Type} [DecidableEq κ]
def valV (kvs : List (κ × V)) (k : κ) : Option V := (kvs.find? fun kv => decide (kv.1 = k)).map (·.2)
def putK (kvs : List (κ × V)) (k : κ) (v : V) : List (κ × V) :=
  if (kvs.any fun kv => decide (kv.1 = k)) = true then kvs.map (fun kv => if kv.1 = k then (kv.1, v) else kv) else kvs ++ [(k, v)]
theorem valV_pos {p : κ × V} {r : List (κ × V)} {k : κ} (e : p.1 = k) : valV (p :: r) k = some p.2 := by simp [valV, List.find?_cons, e]
theorem valV_neg {p : κ × V} {r : List (κ × V)} {k : κ} (e : ¬ p.1 = k) : valV (p :: r) k = valV r k := by simp [valV, List.find?_cons, e]
theorem valV_any (k : κ) : ∀ kvs : List (κ × V), (kvs.any fun kv => decide (kv.1 = k)) = (valV kvs k).isSome
  | [] => rfl
  | p :: r => by
    rw [List.any_cons]
    by_cases e : p.1 = k
    · simp only [valV_pos e, decide_eq_true e, Bool.true_or, Option.isSome_some]
    · rw [valV_neg e, decide_eq_false e, Bool.false_or]; exact valV_any k r
theorem length_putK (kvs : List (κ × V)) (k : κ) (v : V) : (putK kvs k v).length ≤ kvs.length + 1 := by
  unfold putK
  split
  · rw [List.length_map]; omega
  · rw [List.length_append, List.length_cons, List.length_nil]; omega
theorem putK_new {kvs : List (κ × V)} {k : κ} (v : V) (h : valV kvs k = none) : putK kvs k v = kvs ++ [(k, v)] := by
  unfold putK
  rw [valV_any, h]
  exact if_neg (by decide)
theorem RelO.isSome_eq {o : Option V} {u : Option Value} (r : RelO o u) : o.isSome = u.isSome := by
  cases o with
  | none => cases u with
    | none => rfl
    | some _ => exact (show False from r).elim
  | some _ => cases u with
    | none => exact (show False from r).elim
    | some _ => rfl
theorem KV.val {kvs : List (κ × V)} {vs : List (κ × Value)} (r : KV kvs vs) (k : κ) : RelO (valV kvs k) (valueAt vs k) := by
  unfold KV at r
  induction r with
  | nil => exact True.intro
  | @cons p q ps qs h t ih =>
    obtain ⟨h1, h2⟩ := h
    by_cases e : p.1 = k
    · have e' : q.1 = k := h1.symm.trans e
      have b : valueAt (q :: qs) k = some q.2 := by simp [valueAt, List.find?_cons, e']
      rw [valV_pos e, b]; exact h2
    · have e' : ¬ q.1 = k := fun z => e (h1.trans z)
      have b : valueAt (q :: qs) k = valueAt qs k := by simp [valueAt, List.find?_cons, e']
      rw [valV_neg e, b]; exact ih
theorem KV.any {kvs : List (κ × V)} {vs : List (κ × Value)} (r : KV kvs vs) (k : κ) : (kvs.any fun kv => decide (kv.1 = k)) = vs.any fun kv => decide (kv.1 = k) := by
  unfold KV at r
  induction r with
  | nil => rfl
  | cons h t ih => rw [List.any_cons, List.any_cons, ih, h.1]
theorem KV.repl {kvs : List (κ × V)} {vs : List (κ × Value)} (r : KV kvs vs) (k : κ) {y : V} {u : Value} (ry : RelV y u) :
    KV (kvs.map fun kv => if kv.1 = k then (kv.1, y) else kv) (vs.map fun kv => if kv.1 = k then (kv.1, u) else kv) := by
  unfold KV at r ⊢
  induction r with
  | nil => exact .nil
  | @cons p q ps qs h t ih =>
    rw [List.map_cons, List.map_cons]
    refine .cons ?_ ih
    obtain ⟨h1, h2⟩ := h
    by_cases e : p.1 = k
    · rw [if_pos e, if_pos (h1.symm.trans e)]; exact ⟨h1, ry⟩
    · rw [if_neg e, if_neg (fun z => e (h1.trans z))]; exact ⟨h1, h2⟩
theorem KV.put {kvs : List (κ × V)} {vs : List (κ × Value)} (r : KV kvs vs) (k : κ) {y : V} {u : Value} (ry : RelV y u) : KV (putK kvs k y) (stored vs k u) := by
  unfold putK stored
  rw [r.any k]
  by_cases e : (vs.any fun kv => decide (kv.1 = k)) = true
  · rw [if_pos e, if_pos e]; exact r.repl k ry
  · rw [if_neg e, if_neg e]; exact Paired.snoc r ⟨rfl, ry⟩
theorem KV.length {kvs : List (κ × V)} {vs : List (κ × Value)} (r : KV kvs vs) : kvs.length = vs.length := Paired.length r
end
theorem kV_is {P : Program} {w : World} {k : Key} {u : Value} (r : RelV (kV k) u) : (mixKind P w).is k u = true := by
  cases k with
  | inl i => obtain ⟨t, e⟩ := (show ∃ t, u = Value.int i t from r); subst e; exact mixKind_int P w i t
  | inr x => obtain ⟨t, e⟩ := (show ∃ t, u = Value.str x t from r); subst e; exact mixKind_str P w x t
theorem items_are {P : Program} {w : World} : ∀ {ks : List Key} {us : List Value}, Vals (ks.map kV) us → ItemsAre (mixKind P w) ks us
  | [], _, r => by rw [List.map_nil] at r; cases r; exact .nil
  | k :: ks, _, r => by
    rw [List.map_cons] at r
    cases r with
    | cons h t => exact .cons (kV_is h) (items_are t)
abbrev KT (H : Hp) : List (List Key × V) → List (List Key × Addr × Value) → Prop := Paired fun p q => p.1 = q.1 ∧ H q.2.1 = some (.tup (p.1.map kV)) ∧ RelV p.2 q.2.2
theorem KT.val {H : Hp} {kvs : List (List Key × V)} {xs : List (List Key × Addr × Value)} (r : KT H kvs xs) (k : List Key) : RelO (valV kvs k) ((atKey xs k).map (·.2)) := by
  induction r with
  | nil => exact True.intro
  | @cons p q ps qs h t ih =>
    obtain ⟨h1, _, h2⟩ := h
    by_cases e : p.1 = k
    · have e' : q.1 = k := h1.symm.trans e
      have b : atKey (q :: qs) k = some q.2 := by simp [atKey, List.find?_cons, e']
      rw [valV_pos e, b]; exact h2
    · have e' : ¬ q.1 = k := fun z => e (h1.trans z)
      have b : atKey (q :: qs) k = atKey qs k := by simp [atKey, List.find?_cons, e']
      rw [valV_neg e, b]; exact ih
theorem KT.repl {H : Hp} {kvs : List (List Key × V)} {xs : List (List Key × Addr × Value)} (r : KT H kvs xs) (k : List Key) {y : V} {u : Value} (ry : RelV y u) :
    KT H (kvs.map fun kv => if kv.1 = k then (kv.1, y) else kv) (xs.map (putAt k u)) := by
  induction r with
  | nil => exact .nil
  | @cons p q ps qs h t ih =>
    rw [List.map_cons, List.map_cons]
    refine .cons ?_ ih
    obtain ⟨h1, h2, h3⟩ := h
    unfold putAt
    by_cases e : p.1 = k
    · rw [if_pos e, if_pos (h1.symm.trans e)]; exact ⟨h1, h2, ry⟩
    · rw [if_neg e, if_neg (fun z => e (h1.trans z))]; exact ⟨h1, h2, h3⟩
theorem KT.put {H : Hp} {kvs : List (List Key × V)} {xs : List (List Key × Addr × Value)} (r : KT H kvs xs) (k : List Key) {b : Addr} {y : V} {u : Value} (hb : H b = some (.tup (k.map kV))) (ry : RelV y u) :
    KT H (putK kvs k y) (storedH xs k b u) := by
  have e : (kvs.any fun kv => decide (kv.1 = k)) = (atKey xs k).isSome := by
    rw [valV_any, (r.val k).isSome_eq, Option.isSome_map]
  unfold putK storedH
  rw [e]
  by_cases q : (atKey xs k).isSome = true
  · rw [if_pos q, if_pos q]; exact r.repl k ry
  · rw [if_neg q, if_neg q]; exact Paired.snoc r ⟨rfl, hb, ry⟩
theorem KT.keeps {H H' : Hp} {kvs : List (List Key × V)} {xs : List (List Key × Addr × Value)} (r : KT H kvs xs) (ht : ∀ b ys, H b = some (.tup ys) → H' b = some (.tup ys)) : KT H' kvs xs :=
  Paired.mapP r fun _ _ z => ⟨z.1, ht _ _ z.2.1, z.2.2⟩
section
variable {P : Program} {w : World} {H : Hp} {h : Heap} {a : Addr}
theorem rd_of {u : HO} (ok : HOk P w H h) (e : Rd H a u) : ObjOk P w H h a u := e.ok ok
theorem dk_rd {kvs : List (Key × V)} (ok : HOk P w H h) (e : Rd H a (.dK kvs)) : kvs.length ≤ sizeLine ∧ (a == sysModules) = false ∧ ∃ vs, KV kvs vs ∧ h.DictOf (mixKind P w) a vs :=
  show ObjOk P w H h a (.dK kvs) from rd_of ok e
theorem dk_of {kvs : List (Key × V)} (ok : HOk P w H h) (e : H a = some (.dK kvs)) : kvs.length ≤ sizeLine ∧ (a == sysModules) = false ∧ ∃ vs, KV kvs vs ∧ h.DictOf (mixKind P w) a vs := dk_rd ok (.inl e)
theorem key_of {ks : List Key} (ok : HOk P w H h) (e : H a = some (.tup (ks.map kV))) : (tupleKind (mixKind P w)).is h ks a := by
  obtain ⟨_, its, r, o, h1, h2, n, h3⟩ := (show ObjOk P w H h a (.tup (ks.map kV)) from ok a _ e)
  exact ⟨o, its.toArray, n, h1, h2, h3, by simpa using items_are r⟩
theorem dt_rd {kvs : List (List Key × V)} (ok : HOk P w H h) (e : Rd H a (.dT kvs)) : kvs.length ≤ sizeLine ∧ (a == sysModules) = false ∧
    ∃ xs, KT H kvs xs ∧ h.DictOfH (tupleKind (mixKind P w)) a xs := by
  obtain ⟨z, y, xs, r, o, es, ep, h1, h2, h3, h4, h5⟩ := (show ObjOk P w H h a (.dT kvs) from rd_of ok e)
  refine ⟨z, y, xs, r, o, es, ep, h1, h2, h3, h4, fun x hx => ?_, h5⟩
  have all : ∀ {l : List (List Key × V)} {m : List (List Key × Addr × Value)}, KT H l m → ∀ x ∈ m, (tupleKind (mixKind P w)).is h x.1 x.2.1 := by
    intro l m q
    induction q with
    | nil => intro x hx; exact nomatch hx
    | @cons p q ps qs hq t ih =>
      intro x hx
      rcases List.mem_cons.mp hx with e | hx
      · subst e
        exact key_of ok (by rw [← hq.1]; exact hq.2.1)
      · exact ih x hx
  exact all r x hx
theorem dt_of {kvs : List (List Key × V)} (ok : HOk P w H h) (e : H a = some (.dT kvs)) : kvs.length ≤ sizeLine ∧ (a == sysModules) = false ∧
    ∃ xs, KT H kvs xs ∧ h.DictOfH (tupleKind (mixKind P w)) a xs := dt_rd ok (.inl e)
end
def DGet (H : Hp) (a : Addr) (y : V) (r : Option V) : Prop :=
  (∃ kvs k, Rd H a (.dK kvs) ∧ y = kV k ∧ r = valV kvs k) ∨ ∃ kvs k b, Rd H a (.dT kvs) ∧ y = .ref b ∧ H b = some (.tup (k.map kV)) ∧ r = valV kvs k
def DPut (H : Hp) (a : Addr) (y v : V) (H' : Hp) : Prop :=
  (∃ kvs k, H a = some (.dK kvs) ∧ y = kV k ∧ kvs.length < sizeLine ∧ H' = upd H a (.dK (putK kvs k v))) ∨
  ∃ kvs k b, H a = some (.dT kvs) ∧ y = .ref b ∧ H b = some (.tup (k.map kV)) ∧ kvs.length < sizeLine ∧ H' = upd H a (.dT (putK kvs k v))
theorem DGet.k {H : Hp} {a : Addr} {kvs : List (Key × V)} {k : Key} (e : H a = some (.dK kvs)) : DGet H a (kV k) (valV kvs k) := .inl ⟨kvs, k, .inl e, rfl, rfl⟩
theorem DPut.k {H : Hp} {a : Addr} {kvs : List (Key × V)} {k : Key} {v : V} (e : H a = some (.dK kvs)) (hl : kvs.length < sizeLine) : DPut H a (kV k) v (upd H a (.dK (putK kvs k v))) := .inl ⟨kvs, k, e, rfl, hl, rfl⟩
section
variable {X : Cx} {pins : List (Addr × Obj)} {σ : St} {H : Hp} {s : Shared} {a : Addr} {y v : V} {u r : Value} {o : Option V} {A : Around} {E : Value → Shared → Prop}
theorem Inv.big (I : Inv X pins σ H s) : sysModules < s.heap.objs.size := by
  have h : mainGlobals < s.heap.objs.size := (I.mod.glob.keeps I.bk).lt
  exact Nat.lt_trans (by decide) h
theorem d_getItem {Q : Value → Shared → Prop} (hu : A.units + 1 < cLine) (I : Inv X pins σ H s) (g : DGet H a y (some v)) (ry : RelV y u) (h : ∀ w' s', Inv X pins σ H s' → RelV v w' → Q w' s') :
    wpAny (model X.prog X.w) A (getItem (.ref a) u) Q E s := by
  rcases g with ⟨kvs, k, e, ey, l⟩ | ⟨kvs, k, b, e, ey, eb, l⟩
  · subst ey
    obtain ⟨z, hd, vs, rel, dd⟩ := dk_rd I.hok e
    obtain ⟨w', hw, rw'⟩ := RelO.some_of (v := v) (o := valueAt vs k) (by rw [l]; exact rel.val k)
    exact wpAny_getItem_of (kV_is ry) dd.mapOf hw (h w' _ (I.tok _) rw')
  · subst ey
    cases (show u = Value.ref b from ry)
    obtain ⟨z, hd, xs, rel, dd⟩ := dt_rd I.hok e
    obtain ⟨w', hw, rw'⟩ := RelO.some_of (v := v) (o := (atKey xs k).map (·.2)) (by rw [l]; exact rel.val k)
    obtain ⟨p, hp, hp2⟩ := Option.map_eq_some_iff.mp hw
    refine wpAny_getItem_heap (tupleKind_room_in1 hu) (key_of I.hok eb) dd hp ?_
    rw [hp2]
    exact h w' _ (I.tok _) rw'
theorem d_in {Q : Value → Shared → Prop} (hu : A.units + 1 < cLine) (I : Inv X pins σ H s) (g : DGet H a y o) (ry : RelV y u) (h : ∀ s', Inv X pins σ H s' → Q (.bool o.isSome) s') :
    wpAny (model X.prog X.w) A (compareOp .In u (.ref a)) Q E s := by
  rcases g with ⟨kvs, k, e, ey, l⟩ | ⟨kvs, k, b, e, ey, eb, l⟩
  · subst ey
    obtain ⟨z, hd, vs, rel, dd⟩ := dk_rd I.hok e
    refine wpAny_in_of (kV_is ry) hd dd.mapOf ?_
    rw [← (rel.val k).isSome_eq, ← l]
    exact h _ (I.tok _)
  · subst ey
    cases (show u = Value.ref b from ry)
    obtain ⟨z, hd, xs, rel, dd⟩ := dt_rd I.hok e
    refine wpAny_in_heap (tupleKind_room_in1 hu) (key_of I.hok eb) hd dd ?_
    have q := (rel.val k).isSome_eq
    rw [Option.isSome_map] at q
    rw [← q, ← l]
    exact h _ (I.tok _)
theorem d_notIn {Q : Value → Shared → Prop} (hu : A.units + 1 < cLine) (I : Inv X pins σ H s) (g : DGet H a y o) (ry : RelV y u) (h : ∀ s', Inv X pins σ H s' → Q (.bool (!o.isSome)) s') :
    wpAny (model X.prog X.w) A (compareOp .NotIn u (.ref a)) Q E s := by
  rcases g with ⟨kvs, k, e, ey, l⟩ | ⟨kvs, k, b, e, ey, eb, l⟩
  · subst ey
    obtain ⟨z, hd, vs, rel, dd⟩ := dk_rd I.hok e
    refine wpAny_notIn_of (kV_is ry) hd dd.mapOf ?_
    rw [← (rel.val k).isSome_eq, ← l]
    exact h _ (I.tok _)
  · subst ey
    cases (show u = Value.ref b from ry)
    obtain ⟨z, hd, xs, rel, dd⟩ := dt_rd I.hok e
    refine wpAny_notIn_heap (tupleKind_room_in1 hu) (key_of I.hok eb) hd dd ?_
    have q := (rel.val k).isSome_eq
    rw [Option.isSome_map] at q
    rw [← q, ← l]
    exact h _ (I.tok _)
theorem d_write {h' : Heap} {t' : Nat} {ob : HO} (I : Inv X pins σ H s) (mu : Mut (H a)) (hs : Heap.SameBut a s.heap h') (he : ∃ q, h'.get? a = some q) (new : ObjOk X.prog X.w (upd H a ob) h' a ob) :
    Inv X pins σ (upd H a ob) { s with heap := h', toks := t' } :=
  I.write (x := a) (e := a) mu (.inl rfl) (fun b q hb z => (hs.2 b hb).trans z) he new
theorem dk_new {P : Program} {w : World} {H' : Hp} {h' : Heap} {kvs : List (Key × V)} {vs : List (Key × Value)} (z : kvs.length ≤ sizeLine) (hd : (a == sysModules) = false) (rel : KV kvs vs) (dd : h'.DictOf (mixKind P w) a vs) :
    ObjOk P w H' h' a (.dK kvs) := ⟨z, hd, vs, rel, dd⟩
theorem d_setItem {H' : Hp} {Q : Unit → Shared → Prop} (hu : A.units + 1 < cLine) (I : Inv X pins σ H s) (g : DPut H a y v H') (ry : RelV y u) (rv : RelV v r) (h : ∀ s', Inv X pins σ H' s' → Q () s') :
    wpAny (model X.prog X.w) A (setItem (.ref a) u r) Q E s := by
  rcases g with ⟨kvs, k, e, ey, l, eH⟩ | ⟨kvs, k, b, e, ey, eb, l, eH⟩
  · subst ey eH
    obtain ⟨z, hd, vs, rel, dd⟩ := dk_of I.hok e
    have hz : vs.length ≤ sizeLine := by rw [← rel.length]; exact z
    have hl : (putK kvs k v).length ≤ sizeLine := by have := length_putK kvs k v; omega
    refine wpAny_setItem_pairs (hsz := hz) (kV_is ry) dd fun h' dd' hs => h _ ?_
    have he : ∃ q, h'.get? a = some q := let ⟨q, _, _, hq, _⟩ := dd'; ⟨q, hq⟩
    exact d_write I (by rw [e]; exact True.intro) hs he (dk_new hl hd (rel.put k rv) dd')
  · subst ey eH
    cases (show u = Value.ref b from ry)
    obtain ⟨z, hd, xs, rel, dd⟩ := dt_of I.hok e
    have hz : xs.length ≤ sizeLine := by rw [← Paired.length rel]; exact z
    have hl : (putK kvs k v).length ≤ sizeLine := by have := length_putK kvs k v; omega
    refine wpAny_setItem_heap (hsz := hz) (tupleKind_room_in1 hu) (key_of I.hok eb) dd fun h' dd' hs => h _ ?_
    obtain ⟨q, es, ep, hq, h2, h3, h4, _, h5⟩ := dd'
    refine d_write I (by rw [e]; exact True.intro) hs ⟨q, hq⟩ ⟨hl, hd, _, (rel.put k eb rv).keeps fun c ys ec => ?_, q, es, ep, hq, h2, h3, h4, h5⟩
    rw [upd_ne (ne_of ec e (fun z => nomatch z))]
    exact ec
end
def NoSl (i : Expr) : Prop := ∀ ov iv, subscripted i false ov iv = operate [ov, iv] (getItem ov iv)
theorem subD_of {prog : Program} {w : World} {A : Around} {E : Value → Shared → Prop} {s : Shared} {env : Env} {value slice : Expr} {pos : Pos} {T id : String} {Q : Value → Shared → Prop}
    (hl : typeLookup (.type T) "__getitem__" = pure (some (.builtin id))) (hs : NoSl slice)
    (h : wpAny (model prog w) A (eval value env) (fun o s₁ => wpAny (model prog w) A (eval slice env) (fun i s₂ => s₂.TypeIs o T ∧ wpAny (model prog w) A (getItem o i) Q E s₂) E s₁) E s) :
    wpAny (model prog w) A (eval (.Subscript value slice pos) env) Q E s := by
  refine Subscript_ (wpAny_mono h (fun o s₁ h₁ => wpAny_mono h₁ (fun i s₂ h₂ => ?_) fun _ _ x => x) fun _ _ x => x)
  obtain ⟨hT, h₂⟩ := h₂
  unfold subscriptTail
  refine wpAny_bind ?_
  rw [getitemInPython_of_ne hT.not_modules]
  refine wpAny_bind (wpAny_specialOf hT hl ?_)
  have fin : wpAny (model prog w) A (subscripted slice false o i) (fun r s₃ => wpAny (model prog w) A (letTemporaryGo value o r >>= fun _ => pure r) Q E s₃) E s₂ := by
    rw [hs o i]
    exact wpAny_operating (wpAny_mono h₂ (fun r s₃ h₃ => wpAny_bind (wpAny_letTemporaryGo (wpAny_pure h₃))) fun _ _ x => x)
  first
    | exact wpAny_pure (wpAny_bind fin)
    | exact wpAny_bind (wpAny_pure (wpAny_bind fin))
    | exact wpAny_bind fin
theorem dict_typeIs {X : Cx} {pins : List (Addr × Obj)} {σ : St} {H : Hp} {s : Shared} {a : Addr} {y : V} {o : Option V} (I : Inv X pins σ H s) (g : DGet H a y o) : s.TypeIs (.ref a) "dict" := by
  rcases g with ⟨kvs, k, e, _, _⟩ | ⟨kvs, k, b, e, _, _, _⟩
  · obtain ⟨_, _, vs, _, dd⟩ := dk_rd I.hok e
    exact dd.typeIs
  · obtain ⟨_, _, xs, _, dd⟩ := dt_rd I.hok e
    exact dd.typeIs
def tDGet (td ty : TE) : TE := fun σ H Q => td σ H fun x H1 => ty σ H1 fun y H2 => ∃ a v, x = .ref a ∧ DGet H2 a y (some v) ∧ Q v H2
def tDIn (ty td : TE) : TE := fun σ H Q => ty σ H fun y H1 => td σ H1 fun x H2 => ∃ a o, x = .ref a ∧ DGet H2 a y o ∧ Q (.bl o.isSome) H2
def tDNotIn (ty td : TE) : TE := fun σ H Q => ty σ H fun y H1 => td σ H1 fun x H2 => ∃ a o, x = .ref a ∧ DGet H2 a y o ∧ Q (.bl (!o.isSome)) H2
def sDPut (td ty tv : TE) : TS := fun D σ H => tv σ H fun v H1 => td σ H1 fun x H2 => ty σ H2 fun y H3 => ∃ a H4, x = .ref a ∧ DPut H3 a y v H4 ∧ D.nx σ H4
section
variable {X : Cx} {o i e value : Expr} {pos pos' tpos : Pos} {td ty tv : TE}
theorem pe_dget (hu : X.A.units + 1 < cLine) (ho : PE X o td) (hi : PE X i ty) (hs : NoSl i) : PE X (.Subscript o i pos) (tDGet td ty) := by
  intro pins s σ H Q I h
  refine subD_of PySem.F.slot_dict_getitem.lookup hs (thn (ho pins s σ H _ I h) fun u s1 ⟨x, H1, I1, rx, q1⟩ => thn (hi pins s1 σ H1 _ I1 q1) fun iv s2 ⟨y, H2, I2, ry, a, v, ex, g, q2⟩ => ?_)
  subst ex
  obtain rfl : u = Value.ref a := rx
  exact ⟨dict_typeIs I2 g, d_getItem hu I2 g ry fun w' s3 I3 rw' => ⟨v, H2, I3, rw', q2⟩⟩
theorem pc_din (hu : X.A.units + 1 < cLine) (hi : PE X i ty) (ho : PE X o td) : PC X .In i o (tDIn ty td) := by
  intro pins s σ H Q I h
  refine thn (hi pins s σ H _ I h) fun iv s1 ⟨y, H1, I1, ry, q1⟩ => thn (ho pins s1 σ H1 _ I1 q1) fun u s2 ⟨x, H2, I2, rx, a, ov, ex, g, q2⟩ => ?_
  subst ex
  obtain rfl : u = Value.ref a := rx
  exact d_in hu I2 g ry fun s3 I3 => ⟨.bl ov.isSome, H2, I3, rfl, q2⟩
theorem pc_dnotin (hu : X.A.units + 1 < cLine) (hi : PE X i ty) (ho : PE X o td) : PC X .NotIn i o (tDNotIn ty td) := by
  intro pins s σ H Q I h
  refine thn (hi pins s σ H _ I h) fun iv s1 ⟨y, H1, I1, ry, q1⟩ => thn (ho pins s1 σ H1 _ I1 q1) fun u s2 ⟨x, H2, I2, rx, a, ov, ex, g, q2⟩ => ?_
  subst ex
  obtain rfl : u = Value.ref a := rx
  exact d_notIn hu I2 g ry fun s3 I3 => ⟨.bl (!ov.isSome), H2, I3, rfl, q2⟩
theorem ps_dput (hu : X.A.units + 1 < cLine) (ho : PE X o td) (hi : PE X i ty) (hv : PE X value tv) (hs : swapsWith value (some (.Subscript o i pos')) pos.line X.env = pure false) :
    PS X (.Assign [.Subscript o i pos'] value pos) (sDPut td ty tv) := by
  intro pins s σ H D I h
  refine wpAny_Assign_Subscript (thn (hv pins s σ H _ I h) fun r s1 ⟨v, H1, I1, rv, q1⟩ => thn (ho pins s1 σ H1 _ I1 q1) fun u s2 ⟨x, H2, I2, rx, q2⟩ => thn (hi pins s2 σ H2 _ I2 q2) fun iv s3 ⟨y, H3, I3, ry, a, H4, ex, g, q3⟩ => ?_) hs
  subst ex
  obtain rfl : u = Value.ref a := rx
  exact d_setItem hu I3 g ry rv fun s4 I4 => ⟨σ, H4, I4, q3⟩
end
theorem dk_empty {P : Program} {w : World} {H : Hp} (h : Heap) (hb : sysModules < h.objs.size) : ObjOk P w H (h.push { cls := .type "dict", data := .dict #[] }) h.objs.size (.dK []) :=
  ⟨Nat.zero_le _, beq_eq_false_iff_ne.mpr (Ne.symm (Nat.ne_of_lt hb)), [], .nil, Heap.DictOf.new h⟩
def tDNewK : TE := fun _ H Q => ∀ p, H p = none → Q (.ref p) (upd H p (.dK []))
section
variable {X : Cx} {pos : Pos}
theorem pe_dnewK : PE X (.Dict [] [] pos) tDNewK := fun pins s σ H Q I h =>
  wpAny_Dict_empty ⟨.ref s.heap.objs.size, _, I.laid (a := s.heap.objs.size) (o := .dK []) (t' := s.toks) (fun _ _ q => Heap.get?_push_of_some _ q) (Nat.le_refl _) (dk_empty s.heap I.big), rfl, h _ (I.hok.fresh (Nat.le_refl _))⟩
end
end L2
namespace L2
open PySem PySem.Spec PyProof.Rows
end L2
namespace L2
open PySem PySem.Spec PyProof.Rows
section
variable {X : Cx}
theorem pi_one {tg : Expr} {pins : List (Addr × Obj)} {σ : St} {H : Hp} {s : Shared} {R : It → Hp → Prop} {J : It} {tn : Nat → Heap → Prop} {tk : Nat} (I : Inv X pins σ H s) (o : Obj)
    (T : Turn X.prog X.w X.K tg J [s.heap.objs.size] s.heap.objs.size tn) (st : tn 0 (s.heap.push o)) (q : R J H) : PIE X pins σ tg R (.ref s.heap.objs.size) { s with heap := s.heap.push o, toks := tk } := by
  refine ⟨s.heap.objs.size, [s.heap.objs.size], tn, J, H, rfl, I.kept fun b ob e => Heap.get?_push_of_some _ e, T, st, fun b hb => ?_, q⟩
  have e : b = s.heap.objs.size := by simpa using hb
  subst e
  exact I.fpOk (Nat.le_refl _) (I.hok.fresh (Nat.le_refl _))
end
def Itc (lo c : Int) (n : Nat) : It := ⟨fun i _ => i < n, fun i H x H' => H' = H ∧ x = .int (lo + (i : Nat) * c), fun i _ => n ≤ i⟩
theorem turn_rangeC {P : Program} {w : World} {K : PySem.W.Frag} {tg : Expr} (it : Addr) (lo c : Int) (n : Nat) : Turn P w K tg (Itc lo c n) [it] it (fun i h => IsRangeIter h it (lo + (i : Nat) * c) ((n : Int) - (i : Nat)) c) where
  mem := by simp
  obj := fun i h st b hb => by
    have e : b = it := by simpa using hb
    subst e
    exact ⟨_, st, fun v z => nomatch z⟩
  keep := fun i h h' st k => k it (by simp) _ st
  item := by
    intro X hP hw hK hc i pins s σ H E I hf st hg
    subst hP hw hK
    obtain ⟨f0, f1, f2, f3, f4, f5⟩ := hf it (by simp)
    have W := Walks.range (prog := X.prog) (w := X.w) (I.ok.hd hc) it lo c n
    refine W.item i s _ _ hg st fun v h' tk hv st' kk => ?_
    obtain ⟨t, rfl⟩ := hv
    have I1 : Inv X pins σ H { s with heap := h', toks := tk } := I.turned (fun b o hb e => kk b o (by simpa using hb) e) f0 f1 f3 f4 f5
    exact ⟨_, rfl, go_of (s := { s with heap := h', toks := tk }) (n := "range_iterator") st' rfl rfl (by decide) ⟨.int (lo + (i : Nat) * c), H, I1, ⟨t, rfl⟩, ⟨rfl, rfl⟩, st', fun b hb => (hf b hb).1⟩⟩
  done := by
    intro X hP hw hK hc i pins s σ H E I hf st hg
    subst hP hw hK
    obtain ⟨f0, f1, f2, f3, f4, f5⟩ := hf it (by simp)
    exact wpAny_pyNext_range_end (I.ok.hd hc) st (by have : n ≤ i := hg; omega) fun h' eb => ⟨rfl, I.turned (t' := s.toks) (fun b o hb e => eb b o hb e) f0 f1 f3 f4 f5⟩
  self := fun A i s Q E st h => wpAny_pyIter_rangeiter st h
def RgC (i j c : Int) (n : Nat) : Prop := c ≠ 0 ∧ c.natAbs < 1073741824 ∧ Builtin.Range.small i j c = true ∧ Builtin.Range.rangeSize i j c = n
def iRng3 (ta : TA) : TI := fun σ H R => ta σ H fun vs H1 => ∃ (i j c : Int) (n : Nat), vs = [.int i, .int j, .int c] ∧ RgC i j c n ∧ R (Itc i c n) H1
section
variable {X : Cx} {tg : Expr}
theorem pi_range3 {a b c : Expr} {ta : TA} {p pos : Pos} (hg : Gl X "range") (hm : X.mg "range" = none) (ha : PA X [a, b, c] ta)
    (hs : starEach [a, b, c] X.env = (false, eval a X.env) :: starEach [b, c] X.env := by rfl) (hpl : (backTo pos (starEach [b, c] X.env)).any (·.1) = false := by rfl) :
    PI X tg (.Call (.Name "range" p) [a, b, c] [] pos) (iRng3 ta) := by
  intro pins s σ H R I h
  refine Call_ (ld_blt I hg hm boot_range (PyProof.Rows.callWith_type1 (thn (ha pos pins s σ H _ I h) fun us s1 ⟨vs, H1, I1, r1, q1⟩ => ?_) hs hpl))
  obtain ⟨i, j, k, n, e, ⟨c0, c1, c2, c3⟩, q⟩ := q1
  subst e
  cases r1 with
  | cons r rr =>
    cases rr with
    | cons r' rr =>
      cases rr with
      | cons r'' rr =>
        cases rr
        obtain ⟨t, rfl⟩ := r
        obtain ⟨t', rfl⟩ := r'
        obtain ⟨t'', rfl⟩ := r''
        refine call_range_3 c0 ?_ (.inl (PyProof.noPylong_small c1))
        refine wpAny_pyIter_range (IsRange.new ..) c2 ?_
        have I2 : Inv X pins σ H1 { s1 with heap := s1.heap.push { cls := .type "range", data := .fields #[.int i t, .int j t', .int k t''] } } := I1.kept (t' := s1.toks) fun b o e => Heap.get?_push_of_some _ e
        refine pi_one (tk := s1.toks) I2 _ (turn_rangeC _ i k n) ?_ q
        have e1 : i + ((0 : Nat) : Int) * k = i := by simp
        have e2 : (n : Int) - ((0 : Nat) : Int) = Builtin.Range.rangeSize i j k := by rw [c3]; simp
        show IsRangeIter _ _ (i + ((0 : Nat) : Int) * k) ((n : Int) - ((0 : Nat) : Int)) k
        rw [e1, e2]
        exact Heap.get?_push_size _ rfl
end
theorem for_rangeC {lo c : Int} {n : Nat} {g : TG} {tb : TS} {D : Ends} {σ : St} {H : Hp} (Pv : Nat → St → Hp → Prop) (h0 : Pv 0 σ H)
    (hs : ∀ i σ H, i < n → Pv i σ H → g (.int (lo + (i : Nat) * c)) σ H fun σ2 H2 => tb { D with nx := Pv (i + 1), ct := Pv (i + 1), bk := D.nx } σ2 H2) (hd : ∀ σ H, Pv n σ H → D.nx σ H) :
    ∃ W : Nat → Nat → St → Hp → Prop, (∃ m, W 0 m σ H) ∧ ∀ i m σ H, W i m σ H →
      ((Itc lo c n).stop i H ∧ D.nx σ H) ∨ ((Itc lo c n).go i H ∧ ∃ N : St → Hp → Prop, (∀ σ' H', N σ' H' → ∃ m', m' < m ∧ W (i + 1) m' σ' H') ∧ ∀ x H', (Itc lo c n).yld i H x H' → g x σ H' fun σ2 H2 => tb { D with nx := N, ct := N, bk := D.nx } σ2 H2) := by
  refine ⟨fun i m σ H => m = n - i ∧ i ≤ n ∧ Pv i σ H, ⟨n, by simp, Nat.zero_le _, h0⟩, ?_⟩
  rintro i m σ H ⟨rfl, hi, p⟩
  by_cases hlt : i < n
  · refine .inr ⟨hlt, Pv (i + 1), fun σ' H' p' => ⟨n - (i + 1), by omega, rfl, hlt, p'⟩, fun x H' y => ?_⟩
    obtain ⟨e, y⟩ := y
    subst e y
    exact hs i σ _ hlt p
  · have e : i = n := by omega
    subst e
    exact .inl ⟨Nat.le_refl _, hd σ H p⟩
def Its (x : Str) : It := ⟨fun i _ => i < x.cps.size, fun i H v H' => H' = H ∧ ∃ c, x.cps[i]? = some c ∧ v = .str ⟨#[c]⟩, fun i _ => x.cps.size ≤ i⟩
theorem turn_str {P : Program} {w : World} {K : PySem.W.Frag} {tg : Expr} (it : Addr) (x : Str) (t : Tok) (ty : String) (hty : ty = "str_ascii_iterator" ∨ ty = "str_iterator") :
    Turn P w K tg (Its x) [it] it (fun i h => h.IsStrIter it ty x t i) where
  mem := by simp
  obj := fun i h st b hb => by
    have e : b = it := by simpa using hb
    subst e
    obtain ⟨o, e, c, d⟩ := st
    exact ⟨o, e, fun v z => by rw [d] at z; cases z⟩
  keep := fun i h h' st k => let ⟨o, ho, r⟩ := st; ⟨o, k it (by simp) o ho, r⟩
  item := by
    intro X hP hw hK hc i pins s σ H E I hf st hg
    subst hP hw hK
    obtain ⟨f0, f1, f2, f3, f4, f5⟩ := hf it (by simp)
    have W : Walks X.prog X.w X.A it [it] [it] x.cps.size (SignAt x) (fun i h => h.IsStrIter it ty x t i) := by
      rcases hty with e | e
      · rw [e]; exact Walks.strAscii (I.ok.hd hc) it x t
      · rw [e]; exact Walks.strWide (I.ok.hd hc) it x t
    have hno : ["enumerate", "zip", "dict_itemiterator", "dict_reverseitemiterator", "odict_iterator", "itertools.zip_longest", "itertools.pairwise"].contains ty = false := by
      rcases hty with e | e
      · rw [e]; decide
      · rw [e]; decide
    refine W.item i s _ _ hg st fun v h' tk hv st' kk => ?_
    obtain ⟨c, u, hcx, rfl⟩ := hv
    have I1 : Inv X pins σ H { s with heap := h', toks := tk } := I.turned (fun b o hb e => kk b o (by simpa using hb) e) f0 f1 f3 f4 f5
    obtain ⟨oi, e, cc, dd⟩ := id st'
    exact ⟨_, rfl, go_of (s := { s with heap := h', toks := tk }) e cc dd hno ⟨.str ⟨#[c]⟩, H, I1, ⟨u, rfl⟩, ⟨rfl, c, hcx, rfl⟩, st', fun b hb => (hf b hb).1⟩⟩
  done := by
    intro X hP hw hK hc i pins s σ H E I hf st hg
    subst hP hw hK
    obtain ⟨f0, f1, f2, f3, f4, f5⟩ := hf it (by simp)
    have hx : x.cps[i]? = none := Array.getElem?_eq_none hg
    rcases hty with e | e
    · rw [e] at st
      exact wpAny_pyNext_ascii_end (I.ok.hd hc) st hx fun h' eb => ⟨rfl, I.turned (t' := s.toks) (fun b o hb e => eb b o hb e) f0 f1 f3 f4 f5⟩
    · rw [e] at st
      exact wpAny_pyNext_wide_end (I.ok.hd hc) st hx fun h' eb => ⟨rfl, I.turned (t' := s.toks) (fun b o hb e => eb b o hb e) f0 f1 f3 f4 f5⟩
  self := fun A i s Q E st h => by
    rcases hty with e | e
    · rw [e] at st; exact wpAny_pyIter_striter_ascii st h
    · rw [e] at st; exact wpAny_pyIter_striter_wide st h
def iStr (te : TE) : TI := fun σ H R => te σ H fun v H1 => ∃ x, v = .str x ∧ R (Its x) H1
theorem pi_str {X : Cx} {tg e : Expr} {te : TE} (he : PE X e te) : PI X tg e (iStr te) := by
  intro pins s σ H R I h
  refine thn (he pins s σ H _ I h) fun v s1 ⟨y, H1, I1, r1, x, ex, q⟩ => ?_
  subst ex
  obtain ⟨t, rfl⟩ := r1
  cases ha : x.cps.all (· < 128)
  · exact wpAny_pyIter_wide ha (pi_one (tk := s1.toks) I1 _ (turn_str _ x t "str_iterator" (.inr rfl)) ⟨_, Heap.get?_push_size _ rfl, rfl, rfl⟩ q)
  · exact wpAny_pyIter_ascii ha (pi_one (tk := s1.toks) I1 _ (turn_str _ x t "str_ascii_iterator" (.inl rfl)) ⟨_, Heap.get?_push_size _ rfl, rfl, rfl⟩ q)
theorem kv_get {κ : Type} {kvs : List (κ × V)} {vs : List (κ × Value)} (h : KV kvs vs) : ∀ {i : Nat} {k : κ} {v : V}, kvs[i]? = some (k, v) → ∃ u, vs[i]? = some (k, u) ∧ RelV v u := by
  unfold KV at h
  induction h with
  | nil => intro i k v e; simp at e
  | @cons a b l₁ l₂ r t ih =>
    intro i k v e
    cases i with
    | zero =>
      simp only [List.getElem?_cons_zero, Option.some.injEq] at e
      subst e
      refine ⟨b.2, ?_, r.2⟩
      simp only [List.getElem?_cons_zero]
      exact congrArg some (Prod.ext r.1.symm rfl)
    | succ j =>
      simp only [List.getElem?_cons_succ] at e ⊢
      exact ih e
end L2
section 
namespace Bits
open PySem PyProof.Rows
end Bits
end 
section 
namespace TL
open PySem PySem.Builtin PySem.Builtin.Str PySem.StrLaws
abbrev tl (x : Str) : List Nat := x.cps.toList
theorem len_tl (x : Str) : x.length = (tl x).length := by simp [tl, Str.length]
theorem ext_tl {x y : Str} (h : tl x = tl y) : x = y := Str.ext' (Array.toList_inj.mp h)
theorem tl_append (x y : Str) : tl (x ++ y) = tl x ++ tl y := by
  show (x ++ y).cps.toList = _
  rw [Str.cps_append, Array.toList_append]
theorem tl_ofString (s : String) : tl (Str.ofString s) = s.toList.map Char.toNat := PyProof.Rows.signs_ofString s
def pre (S l : List Nat) : Bool := l.take S.length == S
def spl (S : List Nat) : Nat → List Nat → List Nat → List (List Nat)
  | _, acc, [] => [acc]
  | 0, acc, c :: r => if pre S (c :: r) = true then acc :: spl S (S.length - 1) [] r else spl S 0 (acc ++ [c]) r
  | k + 1, acc, _ :: r => spl S k acc r
theorem spl_nil (S : List Nat) (k : Nat) (acc : List Nat) : spl S k acc [] = [acc] := by cases k <;> rfl
theorem spl_hit {S acc r : List Nat} {c : Nat} (h : pre S (c :: r) = true) : spl S 0 acc (c :: r) = acc :: spl S (S.length - 1) [] r := by
  show (if pre S (c :: r) = true then acc :: spl S (S.length - 1) [] r else spl S 0 (acc ++ [c]) r) = _
  rw [if_pos h]
theorem spl_miss {S acc r : List Nat} {c : Nat} (h : pre S (c :: r) = false) : spl S 0 acc (c :: r) = spl S 0 (acc ++ [c]) r := by
  show (if pre S (c :: r) = true then acc :: spl S (S.length - 1) [] r else spl S 0 (acc ++ [c]) r) = _
  rw [if_neg (by rw [h]; exact Bool.false_ne_true)]
theorem spl_pass (S : List Nat) : ∀ (k : Nat) (acc l : List Nat), spl S k acc l = spl S 0 acc (l.drop k)
  | 0, _, _ => by rw [List.drop_zero]
  | k + 1, acc, [] => by rw [List.drop_nil, spl_nil, spl_nil]
  | k + 1, acc, c :: r => by
    show spl S k acc r = spl S 0 acc (r.drop k)
    exact spl_pass S k acc r
theorem pre_nil {S : List Nat} (hS : S ≠ []) : pre S [] = false := by
  cases S with
  | nil => exact absurd rfl hS
  | cons s S => rfl
theorem getElem_drop_cons {L : List Nat} {a : Nat} (h : a < L.length) : ∃ c, L.drop a = c :: L.drop (a + 1) := ⟨L[a], List.drop_eq_getElem_cons h⟩
theorem spl_run (S L : List Nat) : ∀ (m a : Nat) (acc : List Nat), a + m ≤ L.length → (∀ k, a ≤ k → k < a + m → pre S (L.drop k) = false) →
    spl S 0 acc (L.drop a) = spl S 0 (acc ++ (L.drop a).take m) (L.drop (a + m))
  | 0, a, acc, _, _ => by rw [List.take_zero, List.append_nil, Nat.add_zero]
  | m + 1, a, acc, h, hn => by
    have hlt : a < L.length := by omega
    obtain ⟨c, e⟩ := getElem_drop_cons hlt
    have h0 := hn a (Nat.le_refl _) (by omega)
    have ih := spl_run S L m (a + 1) (acc ++ [c]) (by omega) (fun k h1 h2 => hn k (by omega) (by omega))
    have e2 : a + 1 + m = a + (m + 1) := by omega
    rw [e2] at ih
    rw [e] at h0
    rw [e, spl_miss h0, ih, List.take_succ_cons, List.append_assoc] <;> rfl
theorem drop_two (L : List Nat) (a b : Nat) : (L.drop a).drop b = L.drop (a + b) := by
  first
    | rw [List.drop_drop]
    | rw [List.drop_drop, Nat.add_comm]
theorem spl_at {S L : List Nat} (hS : S ≠ []) {c : Nat} {acc : List Nat} (h : pre S (L.drop c) = true) : spl S 0 acc (L.drop c) = acc :: spl S 0 [] (L.drop (c + S.length)) := by
  rw [← drop_two]
  cases e : L.drop c with
  | nil => rw [e, pre_nil hS] at h; cases h
  | cons d r =>
    rw [e] at h
    rw [spl_hit h, spl_pass]
    cases S with
    | nil => exact absurd rfl hS
    | cons s S => rfl
theorem at_iff {x y : Str} (hy : tl y ≠ []) (i : Nat) : At x y x.length i ↔ pre (tl y) ((tl x).drop i) = true := by
  have hx := len_tl x
  have hl := len_tl y
  constructor
  · intro h
    have h2 := h.2
    rw [subAt_eq, hl] at h2
    exact h2
  · intro h
    have e : ((tl x).drop i).take (tl y).length = tl y := eq_of_beq h
    have e1 := congrArg List.length e
    rw [List.length_take, List.length_drop] at e1
    have e2 : 0 < (tl y).length := List.length_pos_iff.mpr hy
    refine ⟨by omega, ?_⟩
    rw [subAt_eq, hl]
    exact h
theorem no_at {x y : Str} (hy : tl y ≠ []) {i : Nat} (h : ¬ At x y x.length i) : pre (tl y) ((tl x).drop i) = false := by
  cases hp : pre (tl y) ((tl x).drop i) with
  | false => rfl
  | true => exact absurd ((at_iff hy i).mpr hp) h
theorem len1 {y : Str} (hy : tl y ≠ []) : 1 ≤ y.length := by
  have e2 : 0 < (tl y).length := List.length_pos_iff.mpr hy
  rw [len_tl y]
  exact e2
theorem tl_strSub (x : Str) (i j : Nat) : tl (strSub x i j) = ((tl x).drop i).take (j - i) := strSub_toList x i j
theorem tl_strSub_end (x : Str) (i : Nat) : tl (strSub x i x.length) = (tl x).drop i := by
  rw [tl_strSub, len_tl x]
  exact List.take_of_length_le (by rw [List.length_drop] <;> omega)
theorem parts_spl {x y : Str} (hy : tl y ≠ []) : ∀ (cuts : List Nat) (a f : Nat), a ≤ (tl x).length → ChainG x y x.length a cuts f → (∀ k, f ≤ k → ¬ At x y x.length k) →
    (partsFrom x y.length a cuts).map tl = spl (tl y) 0 [] ((tl x).drop a)
  | [], a, f, ha, h, hn => by
    have e : f = a := h
    subst e
    show [tl (strSub x f x.length)] = _
    have run := spl_run (tl y) (tl x) ((tl x).length - f) f [] (by omega) (fun k h1 _ => no_at hy (hn k h1))
    have e2 : f + ((tl x).length - f) = (tl x).length := by omega
    rw [e2, List.drop_length, spl_nil, List.nil_append, List.take_of_length_le (by rw [List.length_drop] <;> omega)] at run
    rw [run, tl_strSub_end]
  | c :: r, a, f, ha, h, hn => by
    obtain ⟨h1, h2, h3, h4⟩ := h
    have hc : c + y.length ≤ x.length := h2.1
    have hx := len_tl x
    have hl := len_tl y
    have ih := parts_spl hy r (c + y.length) f (by omega) h4 hn
    show tl (strSub x a c) :: (partsFrom x y.length (c + y.length) r).map tl = _
    have run := spl_run (tl y) (tl x) (c - a) a [] (by omega) (fun k k1 k2 => no_at hy (h3 k k1 (by omega)))
    have e2 : a + (c - a) = c := by omega
    rw [e2, List.nil_append, spl_at hy ((at_iff hy c).mp h2)] at run
    rw [run, ih, tl_strSub, hl]
theorem split_spl (x y : Str) (hy : tl y ≠ []) (hk : ¬ Builtin.Str.strKind x < Builtin.Str.strKind y) : (Txt.split x y).map tl = spl (tl y) 0 [] (tl x) := by
  obtain ⟨f, g, hn⟩ := occ_tight x y (len1 hy)
  have key := parts_spl hy _ 0 f (Nat.zero_le _) g hn
  rw [List.drop_zero] at key
  have none_case : occurrences x y 0 x.length (x.length + 1) = [] → [x].map tl = spl (tl y) 0 [] (tl x) := fun ho => by
    rw [ho] at key
    rw [← key]
    show [tl x] = [tl (strSub x 0 x.length)]
    rw [sub_whole]
  unfold Txt.split
  by_cases h1 : (decide (x.length < y.length) || decide (Builtin.Str.strKind x < Builtin.Str.strKind y)) = true
  · rw [if_pos h1]
    have hlt : x.length < y.length := by
      simp only [Bool.or_eq_true, decide_eq_true_eq] at h1
      rcases h1 with h | h
      · exact h
      · exact absurd h hk
    refine none_case ?_
    cases ho : occurrences x y 0 x.length (x.length + 1) with
    | nil => rfl
    | cons c r =>
      rw [ho] at g
      have hc : c + y.length ≤ x.length := g.2.1.1
      omega
  · rw [if_neg h1]
    by_cases h2 : (occurrences x y 0 x.length (x.length + 1)).isEmpty = true
    · rw [if_pos h2]
      exact none_case (List.isEmpty_iff.mp h2)
    · rw [if_neg h2, partsBetween_eq]
      exact key
theorem kind_ok {x y : Str} (h : y.cps.all (· < 256) = true) : ¬ Builtin.Str.strKind x < Builtin.Str.strKind y := by
  have e : Builtin.Str.strKind y = 1 := by unfold PySem.Builtin.Str.strKind; rw [if_pos h]
  rw [e]
  unfold PySem.Builtin.Str.strKind
  split
  · omega
  · split <;> omega
def joinL (S : List Nat) : List (List Nat) → List Nat
  | [] => []
  | [p] => p
  | p :: q :: r => p ++ (S ++ joinL S (q :: r))
theorem tl_join (y : Str) : ∀ parts : List Str, tl (Str.join y parts) = joinL (tl y) (parts.map tl)
  | [] => rfl
  | [_] => rfl
  | x :: z :: r => by
    show tl (x ++ y ++ Str.join y (z :: r)) = tl x ++ (tl y ++ joinL (tl y) ((z :: r).map tl))
    rw [tl_append, tl_append, tl_join y (z :: r), List.append_assoc]
theorem join_eq (y : Str) (parts : List Str) : Txt.join y parts = Str.join y parts := glued_eq_join y parts
end TL
end 
namespace L2
open PySem PySem.Spec PyProof.Rows
theorem vals_strs : ∀ l : List (Str × Tok), Vals ((l.map (·.1)).map V.str) (strValues l)
  | [] => .nil
  | p :: r => .cons ⟨p.2, rfl⟩ (vals_strs r)
theorem strs_of_vals : ∀ {ys : List Str} {us : List Value}, Vals (ys.map V.str) us → StrsAre us ys
  | [], _, .nil => .nil
  | y :: ys, _, .cons r t => by
    obtain ⟨k, rfl⟩ := r
    exact .cons y k (strs_of_vals t)
def rNewStrs (ys : List Str) : Hp → VK → Prop := fun H Q => ∀ p, H p = none → Q (.ref p) (upd H p (.lst (ys.map V.str)))
section
variable {X : Cx} {pins : List (Addr × Obj)} {σ : St} {H : Hp} {s : Shared} {Q : VK}
theorem laid_strs {l : List (Str × Tok)} {ys : List Str} {k : Nat} (I : Inv X pins σ H s) (e : l.map (·.1) = ys) (hz : ys.length ≤ sizeLine) (h : rNewStrs ys H Q) :
    EP X pins σ Q (.ref s.heap.objs.size) { s with toks := k, heap := s.heap.push { cls := .type "list", data := .seq (strValues l).toArray } } := by
  have hp := I.hok.fresh (Nat.le_refl _)
  refine ⟨.ref s.heap.objs.size, upd H s.heap.objs.size (.lst (ys.map V.str)), I.laid (fun b u q => Heap.get?_push_of_some _ q) (Nat.le_refl _) ⟨by rw [List.length_map]; exact hz, strValues l, _, ?_, Heap.get?_push_size _ rfl⟩, rfl, h _ hp⟩
  rw [← e]
  exact vals_strs l
end
section
variable {X : Cx}
theorem mt_split : MtR X "str.split" (fun x xs H Q => ∃ a b, x = .str a ∧ xs = [.str b] ∧ (b.length == 0) = false ∧ a.length + 2 ≤ sizeLine ∧ rNewStrs (Txt.split a b) H Q) := by
  intro pins s σ H x xs v us Q I rx rs h
  obtain ⟨a, b, rfl, rfl, hb, hz, h⟩ := h
  obtain ⟨t, rfl⟩ := rx
  cases rs with
  | cons r1 rs =>
    cases rs
    obtain ⟨u, rfl⟩ := r1
    have hl : (Txt.split a b).length ≤ sizeLine := Nat.le_trans (PyProof.Rows.split_le a b) hz
    have hn : (Builtin.Str.partsBetween a (Builtin.Str.occurrences a b 0 a.length (a.length + 1)) b.length).length ≤ sizeLine := by
      have e1 := StrLaws.occ_length_le a b 0 a.length (a.length + 1)
      rw [length_partsBetween]; omega
    cases h1 : (decide (a.length < b.length) || decide (Builtin.Str.strKind a < Builtin.Str.strKind b))
    · cases hf : (Builtin.Str.occurrences a b 0 a.length (a.length + 1)).isEmpty
      · refine call_meets F.slot_str_split (typeIs_str _ _ _) F.entry_str_split (F.args_str_split_2 _ _) (meets_str_split_sep a b t u h1 hb hf (by omega) hn) ?_
        show EP X pins σ Q (.ref s.heap.objs.size) { s with toks := _, heap := s.heap.push { cls := .type "list", data := .seq (strsFrom s.toks (Builtin.Str.partsBetween a (Builtin.Str.occurrences a b 0 a.length (a.length + 1)) b.length)).toArray } }
        rw [strsFrom_eq]
        exact laid_strs (ys := Txt.split a b) I ((numbered_texts _ _).trans ((if_neg (ne_true_of_eq_false h1)).trans (if_neg (ne_true_of_eq_false hf))).symm) hl h
      · refine call_meets F.slot_str_split (typeIs_str _ _ _) F.entry_str_split (F.args_str_split_2 _ _) (meets_str_split_not_found a b t u h1 hb hf) ?_
        exact laid_strs (l := [(a, t)]) (ys := Txt.split a b) (k := s.toks) I ((if_neg (ne_true_of_eq_false h1)).trans (if_pos hf)).symm hl h
    · refine call_meets F.slot_str_split (typeIs_str _ _ _) F.entry_str_split (F.args_str_split_2 _ _) (meets_str_split_cannot_occur a b t u h1) ?_
      exact laid_strs (l := [(a, t)]) (ys := Txt.split a b) (k := s.toks) I (if_pos h1).symm hl h
theorem mt_join : MtR X "str.join" (fun x xs H Q => ∃ a p, ∃ ys : List Str, x = .str a ∧ xs = [.ref p] ∧ (SqL X.K H p (ys.map V.str) ∨ SqT X.K H p (ys.map V.str)) ∧
    (ys.map (·.length)).sum + ys.length * a.length ≤ 16777216 ∧ Q (.str (Txt.join a ys)) H) := by
  intro pins s σ H x xs v us Q I rx rs h
  obtain ⟨a, p, ys, rfl, rfl, hp, hz, h⟩ := h
  obtain ⟨t, rfl⟩ := rx
  cases rs with
  | cons r1 rs =>
    cases rs
    cases r1
    rcases hp with hp | hp
    · obtain ⟨its, r, ⟨o, n, ho, hc, _, hd⟩, _⟩ := I.list hp
      exact PyProof.Rows.join_list (items := its.toArray) ⟨o, ho, hc, n, hd⟩ (by rw [List.toList_toArray]; exact strs_of_vals r) hz fun t' k => ⟨.str _, H, I.tok k, ⟨t', rfl⟩, h⟩
    · obtain ⟨its, r, ht, _⟩ := I.tuple hp
      exact PyProof.Rows.join_tuple (items := its.toArray) ht (by rw [List.toList_toArray]; exact strs_of_vals r) hz fun t' k => ⟨.str _, H, I.tok k, ⟨t', rfl⟩, h⟩
theorem mt0 {id : String} {C : Str → Prop} {g : Str → V} (rule : ∀ (a : Str) (t : Tok) (s : Shared) (Q : Value → Shared → Prop), C a → (∀ (u : Value) (k : Nat), RelV (g a) u → Q u { s with toks := k }) →
    wpAny (model X.prog X.w) X.A (call (.builtin id) [.str a t]) Q X.xe s) : MtR X id (fun x xs H Q => ∃ a, x = .str a ∧ xs = [] ∧ C a ∧ Q (g a) H) := by
  intro pins s σ H x xs v us Q I rx rs h
  obtain ⟨a, rfl, rfl, hc, h⟩ := h
  obtain ⟨t, rfl⟩ := rx
  cases rs
  exact rule a t s _ hc fun u k r => ⟨g a, H, I.tok k, r, h⟩
theorem mt_isdigit : MtR X "str.isdigit" (fun x xs H Q => ∃ a, x = .str a ∧ xs = [] ∧ True ∧ Q (.bl (Txt.isdigit a)) H) :=
  mt0 (C := fun _ => True) (g := fun a => .bl (Txt.isdigit a)) fun _ _ s _ _ h => PySem.SC.isdigit (h _ s.toks rfl)
theorem call_int_str : CallR X (.type "int") (fun xs H Q => ∃ a n, xs = [.str a] ∧ PySem.intText? a = some n ∧ a.length ≤ 640 ∧ Q (.int n) H) := by
  intro pins s σ H xs us Q I rs h
  obtain ⟨a, n, rfl, hn, hl, h⟩ := h
  cases rs with
  | cons r1 rs =>
    cases rs
    obtain ⟨t, rfl⟩ := r1
    exact PySem.W.KIN.call_text hn hl ⟨.int n, H, I.tok _, ⟨_, rfl⟩, h⟩
end
section
variable {X : Cx} {o e : Expr} {to te : TE}
def tM0 (r : V → List V → Hp → VK → Prop) (to : TE) : TE := fun σ H Q => to σ H fun x H1 => (∃ a, x = .str a) ∧ r x [] H1 Q
def tM1 (r : V → List V → Hp → VK → Prop) (to te : TE) : TE := fun σ H Q => to σ H fun x H1 => (∃ a, x = .str a) ∧ te σ H1 fun y H2 => r x [y] H2 Q
theorem pe_m0 {id : String} {name : Str} {apos pos : Pos} {r : V → List V → Hp → VK → Prop} (slot : Slot "str" name id) (ty : typeOf (.builtin id) = pure (.type "method_descriptor")) (rule : MtR X id r) (ho : PE X o to)
    (hbase : attributeBase o name X.env (eval o X.env) = eval o X.env := by rfl) (hline : (apos.endLine == pos.line) = true := by rfl) : PE X (.Call (.Attribute o name apos) [] [] pos) (tM0 r to) := by
  intro pins s σ H Q I h
  refine PySem.Call_method0 hbase hline (thn (ho pins s σ H _ I h) fun v s1 ⟨x, H1, I1, r1, q1⟩ => ?_)
  obtain ⟨⟨a, rfl⟩, q1⟩ := q1
  obtain ⟨t, rfl⟩ := _root_.id r1
  exact ⟨"str", _, F.plainAttrs_str, slot, ty, typeIs_str _ _ _, (fun _ e => nomatch e), Calls.callWith_builtin rfl (PySem.evalArgs_none (rule pins s1 σ H1 _ [] _ [] Q I1 r1 .nil q1))⟩
theorem pe_m1 {id : String} {name : Str} {apos pos : Pos} {r : V → List V → Hp → VK → Prop} (slot : Slot "str" name id) (ty : typeOf (.builtin id) = pure (.type "method_descriptor")) (rule : MtR X id r) (ho : PE X o to) (he : PE X e te)
    (hs : starEach [e] X.env = [(false, eval e X.env)] := by rfl) (hbase : attributeBase o name X.env (eval o X.env) = eval o X.env := by rfl) (hline : (apos.endLine == pos.line) = true := by rfl) :
    PE X (.Call (.Attribute o name apos) [e] [] pos) (tM1 r to te) := by
  intro pins s σ H Q I h
  refine PySem.Call_method1 hbase hs hline (thn (ho pins s σ H _ I h) fun v s1 ⟨x, H1, I1, r1, q1⟩ => ?_)
  obtain ⟨⟨a, rfl⟩, q1⟩ := q1
  obtain ⟨t, rfl⟩ := _root_.id r1
  refine ⟨"str", _, F.plainAttrs_str, slot, ty, typeIs_str _ _ _, (fun _ e => nomatch e), Calls.callWith_builtin rfl (Calls.evalArgs_plain (Calls.spliced_cons ?_))⟩
  exact thn (he pins s1 σ H1 _ I1 q1) fun u s2 ⟨y, H2, I2, r2, q2⟩ => Calls.spliced_nil (rule pins s2 σ H2 _ [y] _ [u] Q I2 r1 (.cons r2 .nil) q2)
theorem pe_split {apos pos : Pos} (ho : PE X o to) (he : PE X e te) (hs : starEach [e] X.env = [(false, eval e X.env)] := by rfl) (hbase : attributeBase o "split" X.env (eval o X.env) = eval o X.env := by rfl) (hline : (apos.endLine == pos.line) = true := by rfl) :
    PE X (.Call (.Attribute o "split" apos) [e] [] pos) (tM1 (fun x xs H Q => ∃ a b, x = .str a ∧ xs = [.str b] ∧ (b.length == 0) = false ∧ a.length + 2 ≤ sizeLine ∧ rNewStrs (Txt.split a b) H Q) to te) :=
  pe_m1 F.slot_str_split F.type_str_split mt_split ho he hs hbase hline
theorem pe_join {apos pos : Pos} (ho : PE X o to) (he : PE X e te) (hs : starEach [e] X.env = [(false, eval e X.env)] := by rfl) (hbase : attributeBase o "join" X.env (eval o X.env) = eval o X.env := by rfl) (hline : (apos.endLine == pos.line) = true := by rfl) :
    PE X (.Call (.Attribute o "join" apos) [e] [] pos) (tM1 (fun x xs H Q => ∃ a p, ∃ ys : List Str, x = .str a ∧ xs = [.ref p] ∧ (SqL X.K H p (ys.map V.str) ∨ SqT X.K H p (ys.map V.str)) ∧
      (ys.map (·.length)).sum + ys.length * a.length ≤ 16777216 ∧ Q (.str (Txt.join a ys)) H) to te) :=
  pe_m1 F.slot_str_join F.type_str_join mt_join ho he hs hbase hline
end
end L2
namespace L2
open PySem PySem.Spec PyProof.Rows
section
variable {X : Cx}
theorem op_notIn_sign : OpR X (compareOp .NotIn) (fun x y H Q => ∃ (c : Nat) (z : Str), x = .str ⟨#[c]⟩ ∧ y = .str z ∧ Q (.bl (!decide (c ∈ z.cps.toList))) H) := by
  intro pins s σ H x y v u Q I rx ry h
  obtain ⟨c, z, rfl, rfl, q⟩ := h
  obtain ⟨t, rfl⟩ := rx
  obtain ⟨t', rfl⟩ := ry
  exact PyProof.Rows.notIn_str (fin_bl I q (congrArg Bool.not (PySem.StrLaws.found_one z c).symm))
end
end L2
namespace Att
open PySem PySem.W PySem.Calls PyProof.Rows
end Att
namespace L2
open PySem PySem.Spec PyProof.Rows
end L2
namespace L2
open PySem PySem.Spec PyProof.Rows
end L2
namespace L2
open PySem PySem.Spec PyProof.Rows
def inClass (s : Stmt) (j : Nat) : Stmt := match s with
  | .ClassDef _ _ _ body _ _ _ _ _ _ _ => body.getD j (.Pass ⟨0, 0, 0, 0⟩)
  | _ => .Pass ⟨0, 0, 0, 0⟩
def defArgs (s : Stmt) : Arguments := match s with
  | .FunctionDef _ a _ _ _ _ _ _ _ _ => a
  | _ => { posonlyargs := [], args := [], vararg := none, kwonlyargs := [], kw_defaults := [], kwarg := none, defaults := [] }
def defBody (s : Stmt) : List Stmt := match s with
  | .FunctionDef _ _ b _ _ _ _ _ _ _ => b
  | _ => []
def defScope (s : Stmt) : Scope := match s with
  | .FunctionDef _ _ _ _ _ _ sc _ _ _ => sc
  | _ => { kind := .function, names := [], isGenerator := false, isCoroutine := false }
abbrev CX0 : CXT := fun _ _ _ _ _ _ => False
abbrev E0 : XK := fun _ _ _ => False
theorem pass0 {X : Cx} : Passes CX0 X E0 := fun _ _ _ _ _ _ _ h => h.elim
structure Fun (K : PySem.W.Frag) (x qual : Str) (st : Stmt) (f : Addr) (fd : FuncData) : Prop where
  ex : ∃ (oc : Value) (od : Option Addr) (kV doc pm : Value) (an : Option Addr) (cdv ct : Value) (osl : Array (Option Value)),
    fd = PySem.W.fnOf x qual (defArgs st) (defBody st) (defScope st) .none kV doc pm an cdv ct ∧ K.lookup f = some ⟨oc, od, .func fd, osl⟩ ∧ PySem.W.codeIn K cdv qual = true
  kp : PySem.W.keepIn K (.ref f) = true
section
variable {P : Program} {w : World} {K : PySem.W.Frag} {mg : Str → Option Value} {base : Heap}
theorem Fun.ok {x qual : Str} {st : Stmt} {f : Addr} {fd : FuncData} {N ps : List Str} {k : Nat} {sp : Sp} (F : Fun K x qual st f fd) (S : FnScope N ps (defScope st)) (len : ∀ vs H Q E, sp vs H Q E → vs.length = ps.length)
    (hbody : ∀ (cdv : Value) (A : Around) (outer : List Env) (s : Shared) (H : Hp) (vs : List V) (Q : VK) (E : XK), Room k (A.deeper (envOfC qual (defScope st) s.heap.objs.size f cdv)) → sp vs H Q E →
      ∃ t, PSs (cxOf CX0 P w K mg base N qual (defScope st) f cdv A outer s H E).nox (defBody st) t ∧ t { nx := fun _ H' => Q .non H', rt := Q } (start N vs) H) : FnOk P w K mg base CX0 (k + 1) f fd ps sp := by
  obtain ⟨oc, od, kV, doc, pm, an, cdv, ct, osl, rfl, lk, hcd⟩ := F.ex
  refine fn_of lk hcd S len fun A outer s H vs Q E hr hsp => ?_
  obtain ⟨t, h, q⟩ := hbody cdv A outer s H vs Q E hr hsp
  exact ⟨t, h.nox, q⟩
theorem Fun.binds {x qual : Str} {st : Stmt} {f : Addr} {fd : FuncData} {ps : List Str} (F : Fun K x qual st f fd)
    (h : ∀ (kV doc pm : Value) (an : Option Addr) (cdv ct : Value) (us : List Value), us.length = ps.length → bindArgs (PySem.W.fnOf x qual (defArgs st) (defBody st) (defScope st) .none kV doc pm an cdv ct) ⟨us, []⟩ = pure (ps.zip us)) : Binds K fd ps [] := by
  obtain ⟨oc, od, kV, doc, pm, an, cdv, ct, osl, rfl, lk, hcd⟩ := F.ex
  exact .all (h kV doc pm an cdv ct)
theorem fun_mk {x qual : Str} {st : Stmt} {f : Addr} {oc : Value} {od an : Option Addr} {osl : Array (Option Value)} {kV doc pm cdv ct : Value} (l : K.lookup f = some ⟨oc, od, .func (PySem.W.fnOf x qual (defArgs st) (defBody st) (defScope st) .none kV doc pm an cdv ct), osl⟩)
    (c : PySem.W.codeIn K cdv qual = true) (k : PySem.W.keepIn K (.ref f) = true) : Fun K x qual st f (PySem.W.fnOf x qual (defArgs st) (defBody st) (defScope st) .none kV doc pm an cdv ct) := ⟨⟨oc, od, kV, doc, pm, an, cdv, ct, osl, rfl, l, c⟩, k⟩
end
theorem hu_of {A : Around} {k : Nat} (hr : Room k A) : A.units + 1 < cLine := Nat.lt_of_le_of_lt (Nat.add_le_add_left (by decide : 1 ≤ 64) _) hr.units
theorem small1000 {n : Nat} (h : n ≤ 1000) : n < sizeLine := Nat.lt_of_le_of_lt h (by decide)
section
variable {X : Cx}
theorem pv (i : Nat) {x : Str} {pos : Pos} (hN : X.N[i]? = some x := by rfl) (hv : Vis X.env.scope x := by first | exact Or.inl rfl | exact Or.inr (Or.inl rfl) | exact Or.inr (Or.inr rfl)) (hd : (x == ("__debug__" : Str)) = false := by decide)
    (hcd : (x == ("__classdict__" : Str)) = false := by decide) : PE X (.Name x pos) (tVar i) := pe_var hN hv hd hcd
end
theorem iteF {A B : Prop} (h : B) : if false = true then A else B := by
  rw [if_neg Bool.false_ne_true]
  exact h
theorem iteT {A B : Prop} (h : A) : if true = true then A else B := by
  rw [if_pos rfl]
  exact h
theorem ite2 {c A B : Prop} [Decidable c] (h1 : c → A) (h2 : ¬ c → B) : if c then A else B := by
  by_cases h : c
  · rw [if_pos h]
    exact h1 h
  · rw [if_neg h]
    exact h2 h
def Same (H H' : Hp) : Prop := ∀ b o, H b = some o → H' b = some o
theorem Same.refl (H : Hp) : Same H H := fun _ _ h => h
theorem Same.trans {H H1 H2 : Hp} (a : Same H H1) (b : Same H1 H2) : Same H H2 := fun c o h => b c o (a c o h)
theorem Same.free {H H' : Hp} (e : Same H H') {l : Addr} (h : H' l = Option.none) : H l = Option.none := by
  cases q : H l with
  | none => rfl
  | some o =>
    rw [e l o q] at h
    cases h
theorem Same.seq {K : PySem.W.Frag} {H H' : Hp} {a : Addr} {xs : List V} (e : Same H H') (h : SqL K H a xs) : SqL K H' a xs := by
  rcases h with (h | ⟨o, h⟩) | h
  · exact .inl (.inl (e _ _ h))
  · exact .inl (.inr ⟨o, e _ _ h⟩)
  · exact .inr h
section
variable {κ : Type} [DecidableEq κ]
theorem nd_snoc : ∀ {l : List κ} {k : κ}, l.Nodup → ¬ k ∈ l → (l ++ [k]).Nodup
  | [], k, _, _ => by simp
  | a :: r, k, h, hk => by
    obtain ⟨h1, h2⟩ := List.nodup_cons.mp h
    show (a :: (r ++ [k])).Nodup
    refine List.nodup_cons.mpr ⟨fun m => ?_, nd_snoc h2 fun m => hk (List.mem_cons.mpr (Or.inr m))⟩
    rcases List.mem_append.mp m with q | q
    · exact h1 q
    · exact hk (List.mem_cons.mpr (Or.inl (List.mem_singleton.mp q).symm))
end
theorem at_of {xs : List V} {z : Int} {j : Nat} {v : V} (e : z = (j : Int)) (h : xs[j]? = some v) : atI xs z = some v := by
  rw [e]
  exact atI_nat h
theorem nd_ix {α : Type} {l : List α} (hN : l.Nodup) {i j : Nat} {x : α} (a : l[i]? = some x) (b : l[j]? = some x) : i = j := by
  obtain ⟨h1, e1⟩ := List.getElem?_eq_some_iff.mp a
  obtain ⟨h2, e2⟩ := List.getElem?_eq_some_iff.mp b
  exact (List.getElem_inj hN).mp (e1.trans e2.symm)
theorem sum_take : ∀ {l : List Int} {i : Nat} {z : Int}, l[i]? = some z → (l.take (i + 1)).sum = (l.take i).sum + z
  | [], i, z, h => by simp at h
  | a :: r, 0, z, h => by
    have e : a = z := Option.some.inj h
    subst e
    show ([a] : List Int).sum = ([] : List Int).sum + a
    rw [List.sum_cons]
    exact Int.add_comm _ _
  | a :: r, i + 1, z, h => by
    have ih := sum_take (l := r) (i := i) (z := z) h
    show (a :: r.take (i + 1)).sum = (a :: r.take i).sum + z
    rw [List.sum_cons, List.sum_cons, ih]
    omega
theorem Same.made {H H1 : Hp} {x dx C : Addr} (nx : H x = Option.none) (nd : H dx = Option.none) (k : ∀ b o, (upd (upd H dx (.own x)) x (.ins C dx [])) b = some o → b ≠ x → H1 b = some o) : Same H H1 := fun b o e =>
  k b o (by rw [upd_ne (ne_of_none e nx), upd_ne (ne_of_none e nd)]; exact e) (ne_of_none e nx)
end L2
section
set_option Elab.async false
set_option linter.all false
set_option maxRecDepth 100000
set_option maxHeartbeats 2000000
namespace L2
open PySem PySem.Spec PyProof.Rows
open PySem.W (WData Codec OpenSpec Well WellAll ReadsW ReadsAllW)
mutual
/-- x stands for the datum d, lists and tuples all the way -/
inductive Dw (K : PySem.W.Frag) (H : Hp) : V → WData → Prop
  | non : Dw K H .non .none
  | bl (b : Bool) : Dw K H (.bl b) (.bool b)
  | int (i : Int) : Dw K H (.int i) (.int i)
  | str (x : Str) : Dw K H (.str x) (.str x)
  | byt (b : Array UInt8) : Dw K H (.byt b) (.bytes b.toList)
  | lst {a : Addr} {xs : List V} {ds : List WData} : SqL K H a xs → DwAll K H xs ds → Dw K H (.ref a) (.list ds)
  | tup {a : Addr} {xs : List V} {ds : List WData} : SqT K H a xs → DwAll K H xs ds → Dw K H (.ref a) (.tuple ds)
inductive DwAll (K : PySem.W.Frag) (H : Hp) : List V → List WData → Prop
  | nil : DwAll K H [] []
  | cons {v : V} {vs : List V} {d : WData} {ds : List WData} : Dw K H v d → DwAll K H vs ds → DwAll K H (v :: vs) (d :: ds)
end
theorem dw_ints {K : PySem.W.Frag} {H : Hp} : ∀ ns : List Int, DwAll K H (ns.map V.int) (ns.map WData.int)
  | [] => .nil
  | n :: r => .cons (.int n) (dw_ints r)
theorem ints_dw {K : PySem.W.Frag} {H : Hp} : ∀ (ns : List Int) (xs : List V), DwAll K H xs (ns.map WData.int) → xs = ns.map V.int
  | [], xs, h => by
    cases h
    rfl
  | n :: r, xs, h => by
    cases h with
    | cons h1 h2 =>
      cases h1
      rw [ints_dw r _ h2] <;> rfl
section
variable {P : Program} {w : World} {K : PySem.W.Frag} {H : Hp} {h : Heap} {R : PySem.W.WRecords} {cl : Str → Option Addr}
theorem sqL_at {a : Addr} {xs : List V} (hok : HOk P w H h) (KX : K.In h) (q : SqL K H a xs) : ∃ (its : List Value) (o : Obj) (n : Nat), Vals xs its ∧ h.get? a = some o ∧ o.cls = .type "list" ∧ o.data = .seq its.toArray n := by
  rcases q with q | ⟨o, its, n, e, hc, _, hd, _, hv⟩
  · obtain ⟨_, its, n, hv, e⟩ := (show ObjOk P w H h a (.lst xs) from q.ok hok)
    exact ⟨its, _, n, hv, e, rfl, rfl⟩
  · exact ⟨its.toList, o, n, hv, KX _ _ e, hc, by simp [hd]⟩
theorem sqT_at {a : Addr} {xs : List V} (hok : HOk P w H h) (KX : K.In h) (q : SqT K H a xs) : ∃ (its : List Value) (o : Obj) (n : Nat), Vals xs its ∧ h.get? a = some o ∧ o.cls = .type "tuple" ∧ o.data = .seq its.toArray n := by
  rcases q with q | ⟨o, its, n, e, hc, hd, _, hv⟩
  · obtain ⟨_, its, hv, o, e, hc, n, hd⟩ := (show ObjOk P w H h a (.tup xs) from q.ok hok)
    exact ⟨its, o, n, hv, e, hc, hd⟩
  · exact ⟨its.toList, o, n, hv, KX _ _ e, hc, by simp [hd]⟩
mutual
theorem Dw.reads (hok : HOk P w H h) (KX : K.In h) : ∀ (d : WData) (v : V) (u : Value), Dw K H v d → RelV v u → ∃ as, ReadsW R cl h u d as
  | .none, _, _, x, r => by
    cases x
    cases r
    exact ⟨_, ReadsW.none⟩
  | .bool b, _, _, x, r => by
    cases x
    cases r
    exact ⟨_, ReadsW.bool b⟩
  | .int i, _, _, x, r => by
    cases x
    obtain ⟨t, rfl⟩ := r
    exact ⟨_, ReadsW.int i t⟩
  | .str s, _, _, x, r => by
    cases x
    obtain ⟨t, rfl⟩ := r
    exact ⟨_, ReadsW.str s t⟩
  | .bytes b, _, _, x, r => by
    cases x
    obtain ⟨t, rfl⟩ := r
    exact ⟨_, ReadsW.bytes _ t⟩
  | .list ds, _, _, x, r => by
    cases x with
    | lst hs ha =>
      cases r
      obtain ⟨its, o, n, rv, ho, hc, hd⟩ := sqL_at hok KX hs
      obtain ⟨as, hr⟩ := Dw.readsAll hok KX ds _ its ha rv
      exact ⟨_, ReadsW.list ho hc hd hr⟩
  | .tuple ds, _, _, x, r => by
    cases x with
    | tup hs ha =>
      cases r
      obtain ⟨its, o, n, rv, ho, hc, hd⟩ := sqT_at hok KX hs
      obtain ⟨as, hr⟩ := Dw.readsAll hok KX ds _ its ha rv
      exact ⟨_, ReadsW.tuple ho hc hd hr⟩
  | .float _, _, _, x, _ => by cases x
  | .dict _, _, _, x, _ => by cases x
  | .bytearray _, _, _, x, _ => by cases x
  | .set _, _, _, x, _ => by cases x
  | .frozenset _, _, _, x, _ => by cases x
  | .obj _ _, _, _, x, _ => by cases x
theorem Dw.readsAll (hok : HOk P w H h) (KX : K.In h) : ∀ (ds : List WData) (vs : List V) (us : List Value), DwAll K H vs ds → Vals vs us → ∃ as, ReadsAllW R cl h us ds as
  | [], _, _, x, r => by
    cases x
    cases r
    exact ⟨_, ReadsAllW.nil⟩
  | d :: ds, _, _, x, r => by
    cases x with
    | cons h1 h2 =>
      cases r with
      | cons r1 r2 =>
        obtain ⟨as, q1⟩ := Dw.reads hok KX d _ _ h1 r1
        obtain ⟨bs, q2⟩ := Dw.readsAll hok KX ds _ _ h2 r2
        exact ⟨_, ReadsAllW.cons q1 q2⟩
end
end
mutual
/-- data that a codec tells -/
def plW : WData → Bool
  | .none => true
  | .bool _ => true
  | .int _ => true
  | .str _ => true
  | .bytes _ => true
  | .list xs => plWs xs
  | .tuple xs => plWs xs
  | _ => false
def plWs : List WData → Bool
  | [] => true
  | x :: r => plW x && plWs r
end
theorem plWs_map {α : Type} {f : α → WData} (h : ∀ a, plW (f a) = true) : ∀ l : List α, plWs (l.map f) = true
  | [] => rfl
  | x :: r => by
    show (plW (f x) && plWs (r.map f)) = true
    rw [h x, plWs_map h r] <;> rfl
theorem pl_enc : ∀ (c : Codec) (a : c.denote), plW (c.enc a) = true
  | .unit, _ => rfl
  | .bool, _ => rfl
  | .int _ _, _ => rfl
  | .nat _ _, _ => rfl
  | .u8, _ => rfl
  | .bytes _ _, _ => rfl
  | .text _ _ _ _, _ => rfl
  | .list _ _ c, a => plWs_map (fun x => pl_enc c x) a
  | .pair c d, a => by
    show (plW (c.enc a.1) && (plW (d.enc a.2) && true)) = true
    rw [pl_enc c a.1, pl_enc d a.2] <;> rfl
  | .triple c d e, a => by
    show (plW (c.enc a.1) && (plW (d.enc a.2.1) && (plW (e.enc a.2.2) && true))) = true
    rw [pl_enc c a.1, pl_enc d a.2.1, pl_enc e a.2.2] <;> rfl
  | .option c, none => rfl
  | .option c, some x => pl_enc c x
theorem pl_encAll : ∀ (cs : List Codec) (a : Codec.denoteAll cs), plWs (Codec.encAll cs a) = true
  | [], _ => rfl
  | c :: cs, a => by
    show (plW (c.enc a.1) && plWs (Codec.encAll cs a.2)) = true
    rw [pl_enc c a.1, pl_encAll cs a.2] <;> rfl
theorem weight_mem : ∀ {xs : List WData} {d : WData}, d ∈ xs → d.weight ≤ WData.weightAll xs
  | [], d, h => absurd h (by simp)
  | x :: r, d, h => by
    show d.weight ≤ x.weight + 1 + WData.weightAll r
    rcases List.mem_cons.mp h with e | m
    · rw [e]
      omega
    · have z := weight_mem m
      omega
def toV : Value → V
  | .none => .non
  | .bool b => .bl b
  | .int i _ => .int i
  | .str x _ => .str x
  | .bytes b _ => .byt b
  | .ref a => .ref a
  | _ => .non
def OkU (A : List Addr) : Value → Prop
  | .none => True
  | .bool _ => True
  | .int _ _ => True
  | .str _ _ => True
  | .bytes _ _ => True
  | .ref a => a ∈ A
  | _ => False
theorem OkU.mono {A B : List Addr} (h : ∀ a ∈ A, a ∈ B) : ∀ {u : Value}, OkU A u → OkU B u := fun {u} x => by
  cases u with
  | ref a => exact h a x
  | none => trivial
  | bool b => trivial
  | int i t => trivial
  | str s t => trivial
  | bytes b t => trivial
  | _ => exact False.elim x
theorem relV_toV {A : List Addr} {u : Value} (x : OkU A u) : RelV (toV u) u := by
  cases u with
  | ref a => rfl
  | none => rfl
  | bool b => rfl
  | int i t => exact ⟨t, rfl⟩
  | str s t => exact ⟨t, rfl⟩
  | bytes b t => exact ⟨t, rfl⟩
  | _ => exact False.elim x
theorem vals_toV {A : List Addr} : ∀ {vs : List Value}, (∀ u ∈ vs, OkU A u) → Vals (vs.map toV) vs
  | [], _ => .nil
  | u :: r, h => .cons (relV_toV (h u (List.mem_cons_self ..))) (vals_toV fun x hx => h x (List.mem_cons_of_mem _ hx))
def ArgOb (h : Heap) (A : List Addr) (a : Addr) : Prop := ∃ vs : List Value, vs.length ≤ sizeLine ∧ (∀ u ∈ vs, OkU A u) ∧
  (h.get? a = some { cls := .type "list", data := .seq vs.toArray } ∨ h.get? a = some { cls := .type "tuple", data := .seq vs.toArray })
theorem ArgOb.mono {h : Heap} {A B : List Addr} {a : Addr} (k : ∀ a ∈ A, a ∈ B) (x : ArgOb h A a) : ArgOb h B a := by
  obtain ⟨vs, h1, h2, h3⟩ := x
  exact ⟨vs, h1, fun u hu => (h2 u hu).mono k, h3⟩
theorem wellAll_len {P : Params} {h : Heap} : ∀ {vs : List Value} {ds : List WData}, WellAll P h vs ds → vs.length = ds.length
  | _, _, .nil => rfl
  | _, _, .cons _ b => by
    show _ + 1 = _ + 1
    rw [wellAll_len b]
theorem well_list {P : Params} {h : Heap} {v : Value} {ds : List WData} (x : Well P h v (.list ds)) : ∃ (a : Addr) (vs : List Value), v = .ref a ∧ h.get? a = some { cls := .type "list", data := .seq vs.toArray } ∧ WellAll P h vs ds := by
  cases x with
  | list ho hall => exact ⟨_, _, rfl, ho, hall⟩
theorem well_tuple {P : Params} {h : Heap} {v : Value} {ds : List WData} (x : Well P h v (.tuple ds)) : ∃ (a : Addr) (vs : List Value), v = .ref a ∧ h.get? a = some { cls := .type "tuple", data := .seq vs.toArray } ∧ WellAll P h vs ds := by
  cases x with
  | tuple ho hall => exact ⟨_, _, rfl, ho, hall⟩
theorem well_cons {P : Params} {h : Heap} {us : List Value} {d : WData} {ds : List WData} (x : WellAll P h us (d :: ds)) : ∃ (v : Value) (vs : List Value), us = v :: vs ∧ Well P h v d ∧ WellAll P h vs ds := by
  cases x with
  | cons a b => exact ⟨_, _, rfl, a, b⟩
theorem line_of {n : Nat} (h : n ≤ 1048576) : n ≤ sizeLine := Nat.le_trans h (by decide)
section
variable {P : Params} {h : Heap}
mutual
theorem area_one : ∀ (d : WData) (v : Value), Well P h v d → plW d = true → d.weight ≤ 1048576 → ∃ A : List Addr, OkU A v ∧ ∀ a ∈ A, ArgOb h A a
  | .none, _, x, _, _ => by
    cases x
    exact ⟨[], trivial, fun a m => absurd m (by simp)⟩
  | .bool b, _, x, _, _ => by
    cases x
    exact ⟨[], trivial, fun a m => absurd m (by simp)⟩
  | .int i, _, x, _, _ => by
    cases x
    exact ⟨[], trivial, fun a m => absurd m (by simp)⟩
  | .str s, _, x, _, _ => by
    cases x
    exact ⟨[], trivial, fun a m => absurd m (by simp)⟩
  | .bytes b, _, x, _, _ => by
    cases x
    exact ⟨[], trivial, fun a m => absurd m (by simp)⟩
  | .list ds, _, x, p, z => by
    obtain ⟨a, vs, rfl, ho, hall⟩ := well_list x
    have z2 : WData.weightAll ds ≤ 1048576 := z
    obtain ⟨A, h1, h2⟩ := area_all ds _ hall p fun d hd => Nat.le_trans (weight_mem hd) z2
    have k : ∀ b ∈ A, b ∈ a :: A := fun b hb => List.mem_cons_of_mem _ hb
    refine ⟨a :: A, List.mem_cons_self .., fun b hb => ?_⟩
    rcases List.mem_cons.mp hb with e | m
    · rw [e]
      exact ⟨vs, line_of (by rw [wellAll_len hall]; exact Nat.le_trans (PySem.W.length_le_weightAllW ds) z2), fun u hu => (h1 u hu).mono k, .inl ho⟩
    · exact (h2 b m).mono k
  | .tuple ds, _, x, p, z => by
    obtain ⟨a, vs, rfl, ho, hall⟩ := well_tuple x
    have z2 : WData.weightAll ds ≤ 1048576 := z
    obtain ⟨A, h1, h2⟩ := area_all ds _ hall p fun d hd => Nat.le_trans (weight_mem hd) z2
    have k : ∀ b ∈ A, b ∈ a :: A := fun b hb => List.mem_cons_of_mem _ hb
    refine ⟨a :: A, List.mem_cons_self .., fun b hb => ?_⟩
    rcases List.mem_cons.mp hb with e | m
    · rw [e]
      exact ⟨vs, line_of (by rw [wellAll_len hall]; exact Nat.le_trans (PySem.W.length_le_weightAllW ds) z2), fun u hu => (h1 u hu).mono k, .inr ho⟩
    · exact (h2 b m).mono k
  | .float _, _, _, p, _ => Bool.noConfusion (show false = true from p)
  | .dict _, _, _, p, _ => Bool.noConfusion (show false = true from p)
  | .bytearray _, _, _, p, _ => Bool.noConfusion (show false = true from p)
  | .set _, _, _, p, _ => Bool.noConfusion (show false = true from p)
  | .frozenset _, _, _, p, _ => Bool.noConfusion (show false = true from p)
  | .obj _ _, _, _, p, _ => Bool.noConfusion (show false = true from p)
theorem area_all : ∀ (ds : List WData) (vs : List Value), WellAll P h vs ds → plWs ds = true → (∀ d ∈ ds, d.weight ≤ 1048576) → ∃ A : List Addr, (∀ u ∈ vs, OkU A u) ∧ ∀ a ∈ A, ArgOb h A a
  | [], _, x, _, _ => by
    cases x
    exact ⟨[], fun u m => absurd m (by simp), fun a m => absurd m (by simp)⟩
  | d :: ds, _, x, p, z => by
    obtain ⟨v, vs, rfl, x1, x2⟩ := well_cons x
    have q : plW d = true ∧ plWs ds = true := Bool.and_eq_true_iff.mp p
    obtain ⟨A, a1, a2⟩ := area_one d v x1 q.1 (z d (List.mem_cons_self ..))
    obtain ⟨B, b1, b2⟩ := area_all ds vs x2 q.2 fun e he => z e (List.mem_cons_of_mem _ he)
    have kA : ∀ b ∈ A, b ∈ A ++ B := fun b hb => List.mem_append.mpr (.inl hb)
    have kB : ∀ b ∈ B, b ∈ A ++ B := fun b hb => List.mem_append.mpr (.inr hb)
    refine ⟨A ++ B, fun u hu => ?_, fun b hb => ?_⟩
    · rcases List.mem_cons.mp hu with e | m
      · rw [e]
        exact a1.mono kA
      · exact (b1 u m).mono kB
    · rcases List.mem_append.mp hb with m | m
      · exact (a2 b m).mono kA
      · exact (b2 b m).mono kB
end
end
def hoOf (o : Obj) : Option HO := match o.data with
  | .seq vs _ => if (o.cls == Value.type "list") = true then some (.frz o (.lst (vs.toList.map toV))) else some (.frz o (.tup (vs.toList.map toV)))
  | _ => none
def argH (K : PySem.W.Frag) (h : Heap) (A : List Addr) : Hp := fun b => if b ∈ A then (if (K.lookup b).isNone = true then (h.get? b).bind hoOf else none) else none
def OnlyF (H : Hp) : Prop := ∀ b, H b = none ∨ ∃ o u, H b = some (.frz o u)
theorem hoOf_lst (vs : List Value) : hoOf { cls := .type "list", data := .seq vs.toArray } = some (.frz { cls := .type "list", data := .seq vs.toArray } (.lst (vs.map toV))) := by
  show (if (Value.type "list" == Value.type "list") = true then some (HO.frz { cls := .type "list", data := .seq vs.toArray } (.lst (vs.toArray.toList.map toV))) else some (HO.frz { cls := .type "list", data := .seq vs.toArray } (.tup (vs.toArray.toList.map toV)))) = _
  rw [if_pos (beq_self_eq_true _)]
theorem hoOf_tup (vs : List Value) : hoOf { cls := .type "tuple", data := .seq vs.toArray } = some (.frz { cls := .type "tuple", data := .seq vs.toArray } (.tup (vs.map toV))) := by
  show (if (Value.type "tuple" == Value.type "list") = true then some (HO.frz { cls := .type "tuple", data := .seq vs.toArray } (.lst (vs.toArray.toList.map toV))) else some (HO.frz { cls := .type "tuple", data := .seq vs.toArray } (.tup (vs.toArray.toList.map toV)))) = _
  rw [if_neg (by decide)]
section
variable {P : Program} {w : World} {K : PySem.W.Frag} {h : Heap} {A : List Addr}
theorem argH_at {b : Addr} {o : Obj} (hb : b ∈ A) (hk : K.lookup b = none) (e : h.get? b = some o) : argH K h A b = hoOf o := by
  unfold argH
  rw [if_pos hb, hk, if_pos (show (none : Option Obj).isNone = true from rfl), e] <;> rfl
theorem of_argH {b : Addr} {u : HO} (q : argH K h A b = some u) : b ∈ A ∧ K.lookup b = none := by
  unfold argH at q
  by_cases hb : b ∈ A
  · rw [if_pos hb] at q
    cases hk : K.lookup b with
    | none => exact ⟨hb, rfl⟩
    | some o =>
      rw [hk, if_neg (by simp)] at q
      cases q
  · rw [if_neg hb] at q
    cases q
theorem argH_is (ar : ∀ a ∈ A, ArgOb h A a) {b : Addr} {u : HO} (q : argH K h A b = some u) : K.lookup b = none ∧ ∃ vs : List Value, vs.length ≤ sizeLine ∧ (∀ u ∈ vs, OkU A u) ∧
    ((h.get? b = some { cls := .type "list", data := .seq vs.toArray } ∧ u = .frz { cls := .type "list", data := .seq vs.toArray } (.lst (vs.map toV))) ∨
     (h.get? b = some { cls := .type "tuple", data := .seq vs.toArray } ∧ u = .frz { cls := .type "tuple", data := .seq vs.toArray } (.tup (vs.map toV)))) := by
  obtain ⟨hb, hk⟩ := of_argH q
  obtain ⟨vs, h1, h2, h3⟩ := ar b hb
  refine ⟨hk, vs, h1, h2, ?_⟩
  rcases h3 with e | e
  · rw [argH_at hb hk e, hoOf_lst] at q
    exact .inl ⟨e, (Option.some.inj q).symm⟩
  · rw [argH_at hb hk e, hoOf_tup] at q
    exact .inr ⟨e, (Option.some.inj q).symm⟩
theorem argH_only (ar : ∀ a ∈ A, ArgOb h A a) : OnlyF (argH K h A) := fun b => by
  cases q : argH K h A b with
  | none => exact .inl rfl
  | some u =>
    obtain ⟨_, vs, _, _, ⟨_, e⟩ | ⟨_, e⟩⟩ := argH_is ar q
    · exact .inr ⟨_, _, by rw [e]⟩
    · exact .inr ⟨_, _, by rw [e]⟩
theorem argH_ok (ar : ∀ a ∈ A, ArgOb h A a) : HOk P w (argH K h A) h := fun b u q => by
  obtain ⟨_, vs, h1, h2, ⟨e, rfl⟩ | ⟨e, rfl⟩⟩ := argH_is ar q
  · exact ⟨e, by rw [List.length_map]; exact h1, vs, _, vals_toV h2, e⟩
  · exact ⟨e, by rw [List.length_map]; exact h1, vs, vals_toV h2, _, e, rfl, _, rfl⟩
theorem seq_inj {c c' : Value} {vs us : List Value} (e : (some { cls := c, data := .seq vs.toArray } : Option Obj) = some { cls := c', data := .seq us.toArray }) : c = c' ∧ vs = us := by
  have e1 := Option.some.inj e
  have e2 : c = c' := congrArg Obj.cls e1
  have e3 : Data.seq vs.toArray = Data.seq us.toArray := congrArg Obj.data e1
  injection e3 with e4
  refine ⟨e2, ?_⟩
  have e5 := congrArg Array.toList e4
  simpa using e5
theorem argL (KX : K.In h) (ar : ∀ a ∈ A, ArgOb h A a) {a : Addr} {vs : List Value} (ha : a ∈ A) (e : h.get? a = some { cls := .type "list", data := .seq vs.toArray }) : (∀ u ∈ vs, OkU A u) ∧ SqL K (argH K h A) a (vs.map toV) := by
  obtain ⟨us, h1, h2, h3⟩ := ar a ha
  have hu : us = vs := by
    rcases h3 with q | q
    · rw [e] at q
      exact (seq_inj q).2.symm
    · rw [e] at q
      exact absurd (Value.type.inj (seq_inj q).1) (by decide)
  subst hu
  refine ⟨h2, ?_⟩
  cases hk : K.lookup a with
  | none => exact .inl (.inr ⟨_, by rw [argH_at ha hk e, hoOf_lst]⟩)
  | some o =>
    have e2 := KX a o hk
    rw [e] at e2
    obtain rfl := Option.some.inj e2
    exact .inr ⟨_, us.toArray, _, hk, rfl, rfl, rfl, by rw [List.size_toArray]; exact h1, by simpa using vals_toV h2⟩
theorem argT (KX : K.In h) (ar : ∀ a ∈ A, ArgOb h A a) {a : Addr} {vs : List Value} (ha : a ∈ A) (e : h.get? a = some { cls := .type "tuple", data := .seq vs.toArray }) : (∀ u ∈ vs, OkU A u) ∧ SqT K (argH K h A) a (vs.map toV) := by
  obtain ⟨us, h1, h2, h3⟩ := ar a ha
  have hu : us = vs := by
    rcases h3 with q | q
    · rw [e] at q
      exact absurd (Value.type.inj (seq_inj q).1) (by decide)
    · rw [e] at q
      exact (seq_inj q).2.symm
  subst hu
  refine ⟨h2, ?_⟩
  cases hk : K.lookup a with
  | none => exact .inl (.inr ⟨_, by rw [argH_at ha hk e, hoOf_tup]⟩)
  | some o =>
    have e2 := KX a o hk
    rw [e] at e2
    obtain rfl := Option.some.inj e2
    exact .inr ⟨_, us.toArray, _, hk, rfl, rfl, by rw [List.size_toArray]; exact h1, by simpa using vals_toV h2⟩
mutual
theorem dw_one {Pm : Params} (KX : K.In h) (ar : ∀ a ∈ A, ArgOb h A a) : ∀ (d : WData) (v : Value), Well Pm h v d → plW d = true → OkU A v → Dw K (argH K h A) (toV v) d
  | .none, _, x, _, _ => by
    cases x
    exact .non
  | .bool b, _, x, _, _ => by
    cases x
    exact .bl b
  | .int i, _, x, _, _ => by
    cases x
    exact .int i
  | .str s, _, x, _, _ => by
    cases x
    exact .str s
  | .bytes b, _, x, _, _ => by
    cases x
    have z := Dw.byt (K := K) (H := argH K h A) b.toArray
    exact z
  | .list ds, _, x, p, hu => by
    obtain ⟨a, vs, rfl, ho, hall⟩ := well_list x
    obtain ⟨h2, hs⟩ := argL KX ar hu ho
    exact .lst hs (dw_all KX ar ds _ hall p h2)
  | .tuple ds, _, x, p, hu => by
    obtain ⟨a, vs, rfl, ho, hall⟩ := well_tuple x
    obtain ⟨h2, hs⟩ := argT KX ar hu ho
    exact .tup hs (dw_all KX ar ds _ hall p h2)
  | .float _, _, _, p, _ => Bool.noConfusion (show false = true from p)
  | .dict _, _, _, p, _ => Bool.noConfusion (show false = true from p)
  | .bytearray _, _, _, p, _ => Bool.noConfusion (show false = true from p)
  | .set _, _, _, p, _ => Bool.noConfusion (show false = true from p)
  | .frozenset _, _, _, p, _ => Bool.noConfusion (show false = true from p)
  | .obj _ _, _, _, p, _ => Bool.noConfusion (show false = true from p)
theorem dw_all {Pm : Params} (KX : K.In h) (ar : ∀ a ∈ A, ArgOb h A a) : ∀ (ds : List WData) (vs : List Value), WellAll Pm h vs ds → plWs ds = true → (∀ u ∈ vs, OkU A u) → DwAll K (argH K h A) (vs.map toV) ds
  | [], _, x, _, _ => by
    cases x
    exact .nil
  | d :: ds, _, x, p, hu => by
    obtain ⟨v, vs, rfl, x1, x2⟩ := well_cons x
    have q : plW d = true ∧ plWs ds = true := Bool.and_eq_true_iff.mp p
    exact .cons (dw_one KX ar d v x1 q.1 (hu _ (List.mem_cons_self ..))) (dw_all KX ar ds vs x2 q.2 fun u m => hu u (List.mem_cons_of_mem _ m))
end
end
theorem spec_call {P : Program} {w : World} {K : PySem.W.Frag} {mg mb : Str → Option Value} {CX : CXT} {k : Nat} {fa : Addr} {fd : FuncData} {ps : List Str} {sp : Sp} {s₁ : Shared} {vals : List Value} {ds : List WData} {R : PySem.W.WRecords} {cl : Str → Option Addr} {d0 : WData}
    (KX : K.In s₁.heap) (hns : s₁.heap.Ns mainGlobals mg) (hb : s₁.heap.Ns builtinsNs mb) (hbb : ∀ x : Str, x ≠ "__name__" → mb x = bootBuiltins x) (hlim : s₁.heap.NoLimit) (hg : s₁.gens = #[])
    (hwl : WellAll w.params s₁.heap vals ds) (hpl : plWs ds = true) (hwt : ∀ d ∈ ds, d.weight ≤ 1048576) (hr : Room k callerA)
    (F : ∀ base : Heap, K.In base → base.Ns mainGlobals mg → FnOk P w K mg base CX k fa fd ps sp) (hbind : ∀ (s : Shared) (us : List Value), us.length = ps.length → BindsTo s fd ⟨us, []⟩ (ps.zip us)) (hlen : ds.length = ps.length)
    (hsp : ∀ (H : Hp) (xs : List V), OnlyF H → DwAll K H xs ds → sp xs H (fun v H' => Dw K H' v d0) fun _ _ _ => False)
    (hCX : ∀ H e s', CX [] H s₁ (fun _ _ _ => False) e s' → False) :
    codeAny (model P w) callerA (.call (.ref fa) ⟨vals, []⟩) (fun r s' => ∃ u as, r = .ok (.ret u) ∧ ReadsW R cl s'.heap u d0 as ∧ OldK s₁.heap s'.heap ∧ s'.os = s₁.os ∧ AllBare s'.gens) s₁ := by
  obtain ⟨A, ho, ar⟩ := area_all ds vals hwl hpl hwt
  have hO : OnlyF (argH K s₁.heap A) := argH_only ar
  have hok : HOk P w (argH K s₁.heap A) s₁.heap := argH_ok ar
  have hS := dw_all KX ar ds vals hwl hpl ho
  have hV := vals_toV ho
  have hK : ∀ b u, argH K s₁.heap A b = some u → K.lookup b = none := fun b u q => (argH_is ar q).1
  have noA : ∀ {b : Addr} {o : Obj} {es : Array DictEntry} {ep : Nat}, s₁.heap.get? b = some o → o.data = .dict es ep → argH K s₁.heap A b = none := fun {b o es ep} e d => by
    cases q : argH K s₁.heap A b with
    | none => rfl
    | some u =>
      obtain ⟨_, vs, _, _, ⟨e2, _⟩ | ⟨e2, _⟩⟩ := argH_is ar q
      · rw [e2] at e
        cases e
        have d' : Data.seq vs.toArray _ = Data.dict es ep := d
        cases d'
      · rw [e2] at e
        cases e
        have d' : Data.seq vs.toArray _ = Data.dict es ep := d
        cases d'
  generalize argH K s₁.heap A = H at hO hok hS hK noA
  have base_of : ∀ {b : Addr} {o : Obj}, s₁.heap.get? b = some o → H b = none → (hidT s₁.heap H).get? b = some o := fun e n => hidT_get e n
  have nsK : ∀ {b : Addr} {m : Str → Option Value}, s₁.heap.Ns b m → (hidT s₁.heap H).Ns b m := fun {b m} ⟨o, es, ep, e, d, r⟩ => ⟨o, es, ep, base_of e (noA e d), d, r⟩
  have nK : ∀ b o, K.lookup b = some o → H b = none := fun b o e => by
    cases q : H b with
    | none => rfl
    | some u =>
      rw [hK b u q] at e
      cases e
  have hKb : K.In (hidT s₁.heap H) := fun b o e => base_of (KX b o e) (nK b o e)
  have hM : Mod K mg (hidT s₁.heap H) := ⟨hKb, nsK hns, ⟨mb, nsK hb, hbb⟩, let ⟨mc, h1, h2⟩ := hlim; ⟨mc, nsK h1, h2⟩⟩
  have e0 : Env0 P w K mg (hidT s₁.heap H) callerA [] s₁ H := ⟨rfl, hM, fun b o e => of_hidT e, Nat.le_of_eq (hidT_size _ _), trivial, fun b hb => absurd (show b ∈ ([] : List Addr) from hb) (by simp), hok, .of_eq hg⟩
  have hl : vals.length = ps.length := by rw [wellAll_len hwl]; exact hlen
  refine codeAny_mono ((F _ hKb (nsK hns)).run callerA [] s₁ H ⟨vals, []⟩ vals (vals.map toV) _ _ hr e0 (hbind s₁ vals hl) hV (hsp H _ hO hS)) fun r s' x => ?_
  cases r with
  | error e => exact (hCX H e s' x).elim
  | ok fl =>
    cases fl with
    | next => exact False.elim x
    | brk => exact False.elim x
    | cont => exact False.elim x
    | ret u =>
      obtain ⟨v, H', os, bare, un, hok', r', q⟩ := x
      have kept : ∀ b o, s₁.heap.get? b = some o → s'.heap.get? b = some o := fun b o e => by
        cases q2 : H b with
        | none => exact un.keep b o e q2 (by intro z; exact absurd (show b ∈ ([] : List Addr) from z) (by simp)) (by simp)
        | some u2 =>
          rcases hO b with z | ⟨ob, u3, z⟩
          · rw [q2] at z
            cases z
          · have z2 := un.frzs b ob _ z
            obtain ⟨e1, _⟩ := hok b _ z
            obtain ⟨e2, _⟩ := hok' b _ z2
            rw [e] at e1
            cases e1
            exact e2
      have KX' : K.In s'.heap := fun b o e => kept b o (KX b o e)
      obtain ⟨as, hrd⟩ := Dw.reads (R := R) (cl := cl) hok' KX' d0 v u q r'
      exact ⟨u, as, rfl, hrd, OldK.of_keep kept, os, bare⟩
theorem layable_weight {ds : List WData} (h : WData.layableAll ds = true) : ∀ d ∈ ds, d.weight ≤ 1048576 := fun d hd =>
  (PySem.W.layableW_iff.mp (List.all_eq_true.mp h d hd)).2.2
theorem encAll_len : ∀ (cs : List Codec) (a : Codec.denoteAll cs), (Codec.encAll cs a).length = cs.length
  | [], _ => rfl
  | c :: cs, a => by
    show (Codec.encAll cs a.2).length + 1 = cs.length + 1
    rw [encAll_len cs a.2]
theorem walk_spec {r : OpenSpec} {k : Nat} {q : Program} {loose : List Str} {XP : (Str → Option Value) → Heap → Prop} {YP : World → Heap → Prop} {d : DefRec} {K : Params → PySem.W.Frag} {CX : World → CXT} {ps : List Str} {sp : World → Sp}
    (hwell : r.wellSaid = true) (hdf : d.params.defaults = []) (hlen : r.args.length = ps.length) (hr : Room k callerA)
    (hY : ∀ (w : World) (h : Heap), YP w h → (K w.params).In h)
    (F : ∀ (w : World) (mg : Str → Option Value) (fa : Addr) (h : Heap), YP w h → (K w.params).In h → h.Ns mainGlobals mg → mg d.name = some (.ref fa) →
      ∃ fd : FuncData, (∀ (s : Shared) (us : List Value), us.length = ps.length → BindsTo s fd ⟨us, []⟩ (ps.zip us)) ∧
        ∀ base : Heap, (K w.params).In base → base.Ns mainGlobals mg → FnOk r.prog w (K w.params) mg base (CX w) k fa fd ps (sp w))
    (hsp : ∀ (w : World) (H : Hp) (xs : List V) (a : Codec.denoteAll r.args), OnlyF H → Codec.withinAll r.args a = true → Codec.app r.args r.asked a = true → DwAll (K w.params) H xs (Codec.encAll r.args a) →
      sp w xs H (fun v H' => Dw (K w.params) H' v (r.ret.enc (Codec.app r.args r.f a))) fun _ _ _ => False)
    (hCX : ∀ (w : World) (H : Hp) (s : Shared) (e : Value) (s' : Shared), CX w [] H s (fun _ _ _ => False) e s' → False) :
    PySem.W.WalkOS q loose XP YP r d [] (fun f vs => PySem.call f vs) := by
  intro w s_0 s₁ mg mb G Y fa o pm cd doc dV kV ho hd hcd hD hmg hg args vals as hpre hlay hrd hwl hlo
  obtain ⟨a, e1, e2⟩ := PySem.W.os_pre_some hpre
  obtain ⟨e3, hwi⟩ := Codec.encAll_of_decAll r.args args a e1
  subst e3
  have KX := hY w _ Y
  obtain ⟨fd, hb, hF⟩ := F w mg fa _ Y KX G.T.g hmg
  refine PySem.W.enter_call (codeAny_mono (spec_call (R := []) (cl := classAt s_0.heap) (d0 := r.ret.enc (Codec.app r.args r.f a)) KX G.T.g G.T.b G.T.builtins G.T.nolimit hg hwl (pl_encAll _ _) (layable_weight hlay) hr hF hb (by rw [encAll_len]; exact hlen)
    (fun H xs hO hS => hsp w H xs a hO hwi e2 hS) fun H e s' => hCX w H s₁ e s') fun r' s' hq => ?_)
  obtain ⟨u, as', rfl, h1, h2, h3, h4⟩ := hq
  exact ⟨.inl ⟨u, _, as', rfl, fun _ => rfl, h1, (OpenSpec.post_iff hwell hwi _ _).mpr rfl, fun z => Bool.noConfusion (show false = true from z)⟩, h2, h3, h4⟩
theorem walk_specK {r : OpenSpec} {k : Nat} {q : Program} {loose : List Str} {XP : (Str → Option Value) → Heap → Prop} {YP : World → Heap → Prop} {d : DefRec} {K : Params → PySem.W.Frag} {CX : CXT} {ps : List Str} {sp : PySem.W.Frag → Sp}
    (hwell : r.wellSaid = true) (hdf : d.params.defaults = []) (hlen : r.args.length = ps.length) (hr : Room k callerA)
    (hY : ∀ (w : World) (h : Heap), YP w h → (K w.params).In h)
    (F : ∀ (w : World) (mg : Str → Option Value) (fa : Addr) (h : Heap), YP w h → (K w.params).In h → h.Ns mainGlobals mg → mg d.name = some (.ref fa) →
      ∃ fd : FuncData, (∀ (s : Shared) (us : List Value), us.length = ps.length → BindsTo s fd ⟨us, []⟩ (ps.zip us)) ∧
        ∀ base : Heap, (K w.params).In base → base.Ns mainGlobals mg → FnOk r.prog w (K w.params) mg base CX k fa fd ps (sp (K w.params)))
    (hsp : ∀ (K : PySem.W.Frag) (H : Hp) (xs : List V) (a : Codec.denoteAll r.args), OnlyF H → Codec.withinAll r.args a = true → Codec.app r.args r.asked a = true → DwAll K H xs (Codec.encAll r.args a) →
      sp K xs H (fun v H' => Dw K H' v (r.ret.enc (Codec.app r.args r.f a))) fun _ _ _ => False)
    (hCX : ∀ (H : Hp) (s : Shared) (e : Value) (s' : Shared), CX [] H s (fun _ _ _ => False) e s' → False) :
    PySem.W.WalkOS q loose XP YP r d [] (fun f vs => PySem.call f vs) :=
  walk_spec (K := K) (CX := fun _ => CX) (sp := fun w => sp (K w.params)) hwell hdf hlen hr hY F (fun w H xs a h1 h2 h3 h4 => hsp (K w.params) H xs a h1 h2 h3 h4) fun _ H s e s' => hCX H s e s'
end L2
end
set_option Elab.async false
set_option linter.all false
set_option maxRecDepth 100000
namespace L2
open PySem PySem.Spec PyProof.Rows
theorem frs_cons {env : Env} {outer : List Env} {L b : Addr} (hf : env.frame = some L) (h : b ∈ frs (env :: outer)) : b = L ∨ b ∈ frs outer := by
  unfold frs at h ⊢
  rw [List.filterMap_cons, hf] at h
  exact List.mem_cons.mp h
def CXN (P : Program) (w : World) (C : Addr) : CXT := fun outer H s E e s' =>
  ∃ (ea : Addr) (a0 : Value) (H' : Hp) (B : Heap), e = .ref ea ∧ s'.os = s.os ∧ AllBare s'.gens ∧ Un (frs outer) [] H H' s.heap s'.heap ∧ HOk P w H' s'.heap ∧
    Heap.FlyingW B outer ea (.ref C) a0 s'.heap ∧
    (∀ b, b ∉ frs outer → ((∃ o, s.heap.get? b = some o) ∨ ∃ u, H' b = some u) → ∀ o, s'.heap.get? b = some o → B.get? b = some o) ∧
    E (.ref C) none H'
section
variable {P : Program} {w : World} {H H' : Hp} {h h' h2 B : Heap} {l : List Env} {ea : Addr} {cls a0 : Value}
theorem fly_un (un : Un (frs l) [] H H' h h') (fl : Heap.FlyingW B l ea cls a0 h')
    (inB : ∀ b, b ∉ frs l → ((∃ o, h.get? b = some o) ∨ ∃ u, H' b = some u) → ∀ o, h'.get? b = some o → B.get? b = some o) (st : B.StaysIn h2) (up : h'.UpToSlots h2) : Un (frs l) [] H H' h h2 := by
  refine ⟨fun b o e n hb hx => ?_, fun b o e n hb hx => ?_, un.free, fun b o e hx => ?_, un.tups, un.frzs, un.tbls⟩
  · exact st b o (inB b hb (.inl ⟨o, e⟩) o (un.keep b o e n hb hx))
  · obtain ⟨sl, e1⟩ := un.slot b o e n hb hx
    obtain ⟨_, o', e2, nf⟩ := fl.2.2.1.mem hb
    have q := e1.symm.trans e2
    cases q
    obtain ⟨sl2, e3⟩ := up b _ e1 nf
    exact ⟨sl2, e3⟩
  · obtain ⟨o', e1⟩ := un.there b o e hx
    by_cases hb : b ∈ frs l
    · obtain ⟨_, o2, e2, nf⟩ := fl.2.2.1.mem hb
      obtain ⟨sl2, e3⟩ := up b _ e2 nf
      exact ⟨_, e3⟩
    · exact ⟨o', st b o' (inB b hb (.inl ⟨o, e⟩) o' e1)⟩
theorem fly_hok (hok : HOk P w H' h') (hfr : ∀ b ∈ frs l, H' b = none)
    (inB : ∀ b, b ∉ frs l → ((∃ o, h.get? b = some o) ∨ ∃ u, H' b = some u) → ∀ o, h'.get? b = some o → B.get? b = some o) (st : B.StaysIn h2) : HOk P w H' h2 := fun b u e => by
  refine (hok b u e).stay (fun c v hc q => ?_) (fun _ q => q) fun _ _ q => q
  have ht : ∃ z, H' c = some z := by
    rcases hc with rfl | hc
    · exact ⟨u, e⟩
    · exact ⟨_, hc⟩
  have nf : c ∉ frs l := fun z => by
    obtain ⟨y, hy⟩ := ht
    rw [hfr c z] at hy; cases hy
  exact st c v (inB c nf (.inr ht) v q)
end
theorem ObjOk.got {P : Program} {w : World} {H : Hp} {h : Heap} {a : Addr} : ∀ {o : HO}, ObjOk P w H h a o → ∃ ob, h.get? a = some ob
  | .lst _, ⟨_, _, _, _, e⟩ => ⟨_, e⟩
  | .tup _, ⟨_, _, _, o, e, _⟩ => ⟨o, e⟩
  | .dK _, ⟨_, _, _, _, o, _, _, e, _⟩ => ⟨o, e⟩
  | .dT _, ⟨_, _, _, _, o, _, _, e, _⟩ => ⟨o, e⟩
  | .set _ _, ⟨o, _, _, _, e, _⟩ => ⟨o, e⟩
  | .ins _ _ _, ⟨_, _, _, e, _⟩ => ⟨_, e⟩
  | .own _, ⟨o, e⟩ => ⟨o, e⟩
  | .xd _, ⟨_, ⟨o, _, _, e, _⟩, _⟩ => ⟨o, e⟩
  | .rng _ _, ⟨_, _, _, e⟩ => ⟨_, e⟩
  | .frz o _, ⟨e, _⟩ => ⟨o, e⟩
  | .tbl _, e => ⟨_, e⟩
  | .met _ _, e => ⟨_, e⟩
  | .ext _, ⟨_, ⟨o, e⟩, _⟩ => ⟨o, e⟩
section
variable {P : Program} {w : World} {K : PySem.W.Frag} {mg : Str → Option Value} {base : Heap} {N : List Str} {qual : Str} {scope : Scope} {f : Addr} {cd : Value} {A : Around} {outer : List Env} {s : Shared} {H : Hp} {E : XK} {C : Addr}
theorem raise_leaves {pins : List (Addr × Obj)} {σ : St} {H1 : Hp} {s1 : Shared} {h' : Heap} {ea : Addr} {vs : List Value}
    (I : Inv (cxOf (CXN P w C) P w K mg base N qual scope f cd A outer s H E) pins σ H1 s1) (hx : Heap.MadeExcOf s1.heap h' ea (.ref C) vs) (hE : E (.ref C) none H1) :
    (cxOf (CXN P w C) P w K mg base N qual scope f cd A outer s H E).xe (.ref ea) { s1 with heap := h' } := by
  generalize hX : cxOf (CXN P w C) P w K mg base N qual scope f cd A outer s H E = X at I
  have hst : X.stack = X.env :: outer := by subst hX; rfl
  have hfr : X.env.frame = some X.env.locals := by subst hX; rfl
  have hout : X.outer = outer := by subst hX; rfl
  have hfs : X.A.frames = some (X.env :: outer) := by rw [← hst]; exact I.ok.frames
  have hin : ∀ env ∈ X.stack, ∀ b, env.frame = some b → b ∈ frs X.stack := fun env he b hb => List.mem_filterMap.mpr ⟨env, he, hb⟩
  have hB : ∀ b o, s1.heap.get? b = some o → b ∉ frs X.stack → (PySem.W.hideAll s1.heap (frs X.stack)).get? b = some o := fun b o e n => PySem.W.hideAll_get _ e n
  have hl : s1.heap.FunFrames (PySem.W.hideAll s1.heap (frs X.stack)) (X.env :: outer) := by
    rw [← hst]; exact PySem.W.funFrames_hide I.stack hin
  have goal : wpAny (model P w) X.A (leaving X.env (.ref ea)) (fun _ s'' => CXN P w C outer H s E (.ref ea) s'') (fun e' s'' => CXN P w C outer H s E e' s'') { s1 with heap := h' } := by
    refine wpAny_leaves_madeW (base := PySem.W.hideAll s1.heap (frs X.stack)) (h := s1.heap) hfs hfr (fun b o e => PySem.W.of_hideAll _ e) hl hx fun h2 t fl _ _ up => ?_
    have up1 : ∀ b o, s1.heap.get? b = some o → (∀ vs, o.data ≠ .fields vs) → ∃ sl, h2.get? b = some { o with slots := sl } := fun b o e nf => up b o (hx.keeps b o e) nf
    have un : Un (frs X.stack) [] H1 H1 s1.heap h2 := by
      refine ⟨fun b o e _ hb _ => fl.1 b o (hB b o e hb), fun b o e _ hb _ => ?_, fun _ _ _ n _ => n, fun b o e _ => ?_, fun _ _ q => q, fun _ _ _ q => q, fun b ps q => ⟨#[], by rw [q]; simp⟩⟩
      · obtain ⟨_, o', e', nf⟩ := I.stack.mem hb
        rw [e] at e'; cases e'
        exact up1 b o e nf
      · by_cases hb : b ∈ frs X.stack
        · obtain ⟨_, o', e', nf⟩ := I.stack.mem hb
          obtain ⟨sl, q⟩ := up1 b o' e' nf
          exact ⟨_, q⟩
        · exact ⟨o, fl.1 b o (hB b o e hb)⟩
    have nfr : ∀ b u, H1 b = some u → b ∉ frs X.stack := fun b u e z => by rw [I.stkFree b z] at e; cases e
    have hok : HOk X.prog X.w H1 h2 := fun b u e => by
      refine (I.hok b u e).stay (fun c v hc q => ?_) (fun _ q => q) fun _ _ q => q
      rcases hc with rfl | hc
      · exact fl.1 c v (hB c v q (nfr c u e))
      · exact fl.1 c v (hB c v q (nfr c _ hc))
    have I' := I.call (h' := h2) (g' := s1.gens) (d' := s1.drawn) (t' := s1.toks) (ch := []) un hok I.bare (fun b z => absurd z (by simp))
    subst hX
    refine ⟨ea, .ref t, H1, _, rfl, I'.os, I'.bare, I'.base, I'.hok, fl, fun b hb hc o q => ?_, hE⟩
    have nst : b ∉ frs (cxOf (CXN P w C) P w K mg base N qual scope f cd A outer s H E).stack := by
      rcases hc with ⟨o0, e0⟩ | ⟨u, hu⟩
      · intro z
        rw [hst] at z
        rcases frs_cons hfr z with z | z
        · exact absurd (Nat.lt_of_lt_of_le (Heap.lt_size e0) I.ok.above) (by rw [z]; exact Nat.lt_irrefl _)
        · exact hb z
      · exact nfr b u hu
    obtain ⟨o1, e1⟩ : ∃ o1, s1.heap.get? b = some o1 := by
      rcases hc with ⟨o0, e0⟩ | ⟨u, hu⟩
      · exact I.base.there b o0 e0 (by show b ∉ ([] : List Addr); simp)
      · exact (I.hok b u hu).got
    have e2 := hB b o1 e1 nst
    have e3 := fl.1 b o1 e2
    rw [q] at e3; cases e3
    exact e2
  subst hX
  exact goal
theorem pass_leaves {E1 : XK} (hEE : ∀ v a H', E1 v a H' → E v a H') : Passes (CXN P w C) (cxOf (CXN P w C) P w K mg base N qual scope f cd A outer s H E) E1 := by
  intro pins σ H1 s1 e s' I hcx
  generalize hX : cxOf (CXN P w C) P w K mg base N qual scope f cd A outer s H E = X at I hcx
  have hst : X.stack = X.env :: outer := by subst hX; rfl
  have hfr : X.env.frame = some X.env.locals := by subst hX; rfl
  have hpr : X.prog = P := by subst hX; rfl
  have hw : X.w = w := by subst hX; rfl
  have hfs : X.A.frames = some (X.env :: outer) := by rw [← hst]; exact I.ok.frames
  obtain ⟨ea, a0, H', B, rfl, os, bare, un, hok, fl, inB, hE⟩ := hcx
  have nfr : ∀ b ∈ frs X.stack, H' b = none := fun b hb => by
    obtain ⟨_, o, e, _⟩ := I.stack.mem hb
    exact un.free b o e (I.stkFree b hb) (by simp)
  have goal : wpAny (model P w) X.A (leaving X.env (.ref ea)) (fun _ s'' => CXN P w C outer H s E (.ref ea) s'') (fun e' s'' => CXN P w C outer H s E e' s'') s' := by
    refine wpAny_leaves_onW hfs hfr (by rw [← hst]; exact fl) fun h2 fl2 up => ?_
    have un2 := fly_un un fl inB fl2.1 up
    have hok2 : HOk P w H' h2 := fly_hok hok nfr inB fl2.1
    obtain ⟨hh, g, d, tk, os'⟩ := s'
    obtain rfl : os' = s1.os := os
    have I' := I.call (h' := h2) (g' := g) (d' := d) (t' := tk) (ch := []) un2 (by rw [hpr, hw]; exact hok2) bare (fun b z => absurd z (by simp))
    subst hX
    refine ⟨ea, a0, H', B, rfl, I'.os, I'.bare, I'.base, I'.hok, fl2, fun b hb hc o q => ?_, hEE _ _ _ hE⟩
    have nst : b ∉ frs (cxOf (CXN P w C) P w K mg base N qual scope f cd A outer s H E).stack := by
      rcases hc with ⟨o0, e0⟩ | ⟨u, hu⟩
      · intro z
        rw [hst] at z
        rcases frs_cons hfr z with z | z
        · exact absurd (Nat.lt_of_lt_of_le (Heap.lt_size e0) I.ok.above) (by rw [z]; exact Nat.lt_irrefl _)
        · exact hb z
      · intro z
        rw [nfr b z] at hu; cases hu
    have hc2 : (∃ o, s1.heap.get? b = some o) ∨ ∃ u, H' b = some u := by
      rcases hc with ⟨o0, e0⟩ | hu
      · exact .inl (I.base.there b o0 e0 (by show b ∉ ([] : List Addr); simp))
      · exact .inr hu
    obtain ⟨o1, e1⟩ : ∃ o1, hh.get? b = some o1 := by
      rcases hc2 with ⟨o0, e0⟩ | ⟨u, hu⟩
      · exact un.there b o0 e0 (by simp)
      · exact (hok b u hu).got
    have e2 := inB b nst hc2 o1 e1
    have e3 := fl2.1 b o1 e2
    rw [q] at e3; cases e3
    exact e2
  subst hX
  exact goal
end
structure Exn (K : PySem.W.Frag) (mg : Str → Option Value) (x : Str) (C : Addr) : Prop where
  mg : mg x = some (.ref C)
  ex : PySem.W.excIn K C [.type "Exception", .type "BaseException", .type "object"] "Exception.__new__" = true
  ma : PySem.W.exmOne K (.ref C) (.ref C) = some true
def tRaise (C : Addr) (E : XK) : TS := fun _ _ H => E (.ref C) none H
def Raises (X : Cx) (C : Addr) (E : XK) : Prop := ∀ (pins : List (Addr × Obj)) (σ : St) (H : Hp) (s : Shared) (h' : Heap) (ea : Addr), Inv X pins σ H s → Heap.MadeExcOf s.heap h' ea (.ref C) [] → E (.ref C) none H → X.xe (.ref ea) { s with heap := h' }
theorem exn_own {K : PySem.W.Frag} {h : Heap} {mg : Str → Option Value} {x : Str} {C : Addr} (Z : Exn K mg x C) (X : K.In h) : OwnCls x C [.type "Exception", .type "BaseException", .type "object"] "Exception.__new__" mg h := by
  refine ⟨Z.mg, ?_⟩
  have q := Z.ex
  unfold PySem.W.excIn at q
  cases hl : K.lookup C with
  | none => rw [hl] at q; cases q
  | some o =>
    rw [hl] at q
    obtain ⟨oc, od, dt, sl⟩ := o
    split at q
    · rename_i dd cd sl2 ho
      cases ho
      split at q
      · rename_i C' bm k0 k1 k2 k3 n k5 hm hs
        rw [Bool.and_eq_true, Bool.and_eq_true, Bool.and_eq_true, Bool.and_eq_true, Bool.and_eq_true] at q
        obtain ⟨⟨⟨⟨⟨q1, q2⟩, q3⟩, q4⟩, q5⟩, q6⟩ := q
        have e1 : C' = C := eq_of_beq q1
        have e2 : n = "Exception.__new__" := eq_of_beq q2
        have e3 : cd.hasDel = false := by simpa using q3
        have e6 := eq_of_beq q6
        subst e1 e2
        have hsl : sl = #[k0, k1, k2, k3, some (.builtin "Exception.__new__"), k5] := by
          cases sl with
          | mk l => exact congrArg Array.mk hs
        subst hsl
        have hC := X _ _ hl
        obtain ⟨nm, bs, mro, ns, qn, hd, sn, sub, ab, col, del⟩ := cd
        have hm' : mro = .ref C' :: bm := hm
        have e3' : del = false := e3
        subst hm' e3'
        exact ⟨bm, ns, nm, qn, bs, hd, sn, sub, ab, col, _, k0, k1, k2, k3, k5, _, hC, .of_isNs (PySem.W.isNs_of_in X q5), PySem.W.nsMap_none_of_in X q5 e6, PySem.W.tail_of_in X q4⟩
      · cases q
    · cases q
section
variable {X : Cx} {x : Str} {C : Addr} {E : XK} {np cpos pos : Pos}
theorem ps_raise0 (hc : X.calm = true) (hg : Gl X x) (Z : Exn X.K X.mg x C) (hR : Raises X C E) (hd : (x == ("__debug__" : Str)) = false := by decide) :
    PS X (.Raise (some (.Call (.Name x np) [] [] cpos)) none pos) (tRaise C E) := by
  intro pins s σ H D I h
  have O := exn_own Z I.kIn
  obtain ⟨tl, N, nm, q, bs, hdct, sn, sub, ab, col, dd, k0, k1, k2, k3, k5, mN, hC, hN, hni, T⟩ := O.obj
  exact wpAny_Raise_call_subT (C := C) PySem.F.excBase_Exception (mN := mN) (T.hasType PySem.F.excBase_Exception.hasBase) (I.ok.hd hc) rfl hni
    (ld_glob I hg Z.mg ⟨rfl, evalArgs_empty ⟨rfl, Nat.zero_le _, hC, hN, T, fun h' e hm => hR pins σ H s h' e I hm h⟩⟩ hd)
end
def tTry (C : Addr) (E : XK) (tb th : TS) : TS := fun D σ H => tb D σ H ∧ ∀ σ' H', σ'.length = σ.length → E (.ref C) none H' → th D σ' H'
abbrev Cx.suite (X : Cx) (ea : Addr) : Cx := { X with A := X.A.mark (some (.ref ea)), calm := false, xe := fun _ _ => False }
abbrev Cx.tried (X : Cx) (pn : List (Addr × Obj)) (E : Value → Shared → Prop) : Cx := { X with pn := pn, xe := E }
theorem Inv.tried {X : Cx} {pins : List (Addr × Obj)} {σ : St} {H : Hp} {s : Shared} (I : Inv X pins σ H s) (E : Value → Shared → Prop) : Inv (X.tried (X.pn ++ pins) E) [] σ H s :=
  ⟨⟨I.ok.mod, I.ok.kind, I.ok.glob, I.ok.blt, I.ok.above, I.ok.inj, I.ok.has, I.ok.cab, I.ok.hd, I.ok.frames, I.ok.stk, I.ok.exf, I.ok.bs, I.ok.bsz, I.ok.noex, I.ok.exfs, I.ok.funs, I.ok.frf⟩,
    I.os, I.bare, I.base, I.loc, I.cell, I.free, I.freeC, fun p hp => I.pin p (by simpa using hp), I.hok, I.len⟩
theorem Inv.untried {X : Cx} {pins pins' : List (Addr × Obj)} {σ : St} {H : Hp} {s : Shared} {E : Value → Shared → Prop} (I : Inv (X.tried (X.pn ++ pins) E) pins' σ H s) : Inv X pins σ H s :=
  ⟨⟨I.ok.mod, I.ok.kind, I.ok.glob, I.ok.blt, I.ok.above, I.ok.inj, I.ok.has, I.ok.cab, I.ok.hd, I.ok.frames, I.ok.stk, I.ok.exf, I.ok.bs, I.ok.bsz, I.ok.noex, I.ok.exfs, I.ok.funs, I.ok.frf⟩,
    I.os, I.bare, I.base, I.loc, I.cell, I.free, I.freeC, fun p hp => I.pin p (List.mem_append_left _ hp), I.hok, I.len⟩
theorem Inv.toSuite {X : Cx} {pins : List (Addr × Obj)} {σ : St} {H : Hp} {s : Shared} (I : Inv X pins σ H s) (ea : Addr) : Inv (X.suite ea) pins σ H s :=
  ⟨⟨I.ok.mod, I.ok.kind, I.ok.glob, I.ok.blt, I.ok.above, I.ok.inj, I.ok.has, I.ok.cab, fun z => (Bool.false_ne_true z).elim, I.ok.frames, I.ok.stk, I.ok.exf, I.ok.bs, I.ok.bsz, I.ok.noex, I.ok.exfs, I.ok.funs, I.ok.frf⟩,
    I.os, I.bare, I.base, I.loc, I.cell, I.free, I.freeC, I.pin, I.hok, I.len⟩
theorem Inv.ofSuite {X : Cx} {pins : List (Addr × Obj)} {σ : St} {H : Hp} {s : Shared} {ea : Addr} (ok : X.Ok) (I : Inv (X.suite ea) pins σ H s) : Inv X pins σ H s :=
  ⟨ok, I.os, I.bare, I.base, I.loc, I.cell, I.free, I.freeC, I.pin, I.hok, I.len⟩
theorem SP.mapX {X Y : Cx} {pins pins' : List (Addr × Obj)} {D : Ends} {f : Flow} {s : Shared} (h : SP X pins D f s) (k : ∀ σ H, Inv X pins σ H s → Inv Y pins' σ H s) : SP Y pins' D f s := by
  cases f with
  | next => obtain ⟨σ', H', I, q⟩ := h; exact ⟨σ', H', k _ _ I, q⟩
  | brk => obtain ⟨σ', H', I, q⟩ := h; exact ⟨σ', H', k _ _ I, q⟩
  | cont => obtain ⟨σ', H', I, q⟩ := h; exact ⟨σ', H', k _ _ I, q⟩
  | ret u => obtain ⟨v, σ', H', I, r, q⟩ := h; exact ⟨v, σ', H', k _ _ I, r, q⟩
section
variable {X : Cx} {x : Str} {C : Addr} {E : XK} {np hpos pos : Pos} {body suite : List Stmt} {b₀ : Stmt} {tb th : TS}
theorem ps_try (hst : X.stack = X.env :: X.outer) (hfr : X.env.frame = some X.env.locals) (hg : Gl X x) (Z : Exn X.K X.mg x C)
    (hb : ∀ (pn : List (Addr × Obj)) (Eh : Value → Shared → Prop), Passes (CXN X.prog X.w C) (X.tried pn Eh) E → PSs (X.tried pn Eh) body tb)
    (hs : ∀ ea, PSs (X.suite ea) (b₀ :: suite) th) (hd : (x == ("__debug__" : Str)) = false := by decide) :
    PS X (.Try body [.ExceptHandler (some (.Name x np)) none (b₀ :: suite) hpos] [] [] pos) (tTry C E tb th) := by
  intro pins s σ H D I h
  obtain ⟨h1, h2⟩ := h
  have hfs : X.A.frames = some (X.env :: X.outer) := by rw [← hst]; exact I.ok.frames
  refine wpAny_Try_except (wpAny_mono (hb (X.pn ++ pins) (fun e s₁ => wpAny (model X.prog X.w) X.A (noteFrame e X.env) (fun _ s₂ => wpAny (model X.prog X.w) X.A (setFlight e none) (fun _ s₃ =>
    wpAny (model X.prog X.w) X.A (handleBy e X.env [.ExceptHandler (some (.Name x np)) none (b₀ :: suite) hpos]) (SP X pins D) X.xe s₃) X.xe s₂) X.xe s₁) ?_ [] s σ H D (I.tried _) h1) (fun f s1 q => ?_) fun _ _ q => q)
  · intro pins' σ' H1 s1 e s' I1 hcx
    have I1 := I1.untried
    obtain ⟨ea, a0, H', B, rfl, os, bare, un, hok, fl, inB, hE⟩ := hcx
    have nfr : ∀ b ∈ frs X.stack, H' b = none := fun b hb => by
      obtain ⟨_, o, e, _⟩ := I1.stack.mem hb
      exact un.free b o e (I1.stkFree b hb) (by simp)
    have fl' : Heap.FlyingW B (X.env :: X.outer) ea (.ref C) a0 s'.heap := by rw [← hst]; exact fl
    refine wpAny_looks_onW hfs hfr fl' fun h4 held4 up4 => ?_
    refine wpAny_landsW held4 fun h5 fl5 up5 => ?_
    have up45 : s'.heap.UpToSlots h5 := up4.trans up5
    obtain ⟨hh, g, d, tk, os'⟩ := s'
    obtain rfl : os' = s1.os := os
    have I5 : Inv X pins σ' H' { s1 with heap := h5, gens := g, drawn := d, toks := tk } := I1.call (h' := h5) (g' := g) (d' := d) (t' := tk) (ch := []) (fly_un un fl inB fl5.1 up45) (fly_hok hok nfr inB fl5.1) bare (fun b z => absurd z (by simp))
    obtain ⟨ob, hob, hobc⟩ := fl5.there
    have LT : PySem.W.Looks (model X.prog X.w) h5 (typeOf (.ref ea)) ob.cls := (PySem.W.Looks.ld hob).andThen .now
    rw [hobc] at LT
    refine wpAny_handleBy_cons (codeAny_handlers_test (ld_glob (X := X.suite ea) (I5.toSuite ea) hg Z.mg ?_ hd)) (by intro q; cases q)
    refine (PySem.W.exm_one I5.kIn LT Z.ma).here ?_
    refine codeAny_handlers_suite ?_
    refine lands_againW fl5 fun h6 fl6 up6 => ?_
    have I6 : Inv X pins σ' H' { s1 with heap := h6, gens := g, drawn := d, toks := tk } := I1.call (h' := h6) (g' := g) (d' := d) (t' := tk) (ch := []) (fly_un un fl inB fl6.1 (up45.trans up6)) (fly_hok hok nfr inB fl6.1) bare (fun b z => absurd z (by simp))
    refine wpAny_mono (hs ea pins _ σ' H' D (I6.toSuite ea) (h2 σ' H' (I6.len.trans I.len.symm) hE)) (fun f s2 q => ?_) fun _ _ z => False.elim z
    exact q.mapX fun _ _ J => J.ofSuite I.ok
  · have q' := q.mapX (Y := X) (pins' := pins) fun _ _ J => J.untried
    cases f with
    | next => exact wpAny_execs_nil q'
    | ret u => exact q'
    | brk => exact q'
    | cont => exact q'
end
end L2
set_option linter.all false
namespace Mir
abbrev W := List Nat
def kw (s : String) : W := s.toList.map Char.toNat
def isSign (c : Nat) : Bool := c == 10 || (c == 32 || ((decide (48 ≤ c) && decide (c ≤ 57)) || (decide (97 ≤ c) && decide (c ≤ 122))))
def cut (s : Nat) : W → W → List W
  | acc, [] => [acc]
  | acc, c :: r => if c = s then acc :: cut s [] r else cut s (acc ++ [c]) r
def small (c : Nat) : Bool := decide (97 ≤ c) && decide (c ≤ 122)
def dig (c : Nat) : Bool := decide (48 ≤ c) && decide (c ≤ 57)
def okName (w : W) : Bool := decide (1 ≤ w.length) && (decide (w.length ≤ 12) && (w.head?.map small).getD false)
def valD (w : W) : Nat := w.foldl (fun n c => 10 * n + (c - 48)) 0
def num (lo hi : Nat) (w : W) : Option Nat :=
  if w ≠ [] ∧ w.all dig = true ∧ w.length ≤ 5 ∧ ¬ (w.head? = some 48 ∧ w ≠ [48]) ∧ lo ≤ valD w ∧ valD w ≤ hi then some (valD w) else none
def coup (n : Nat) : List Nat → List Nat → List W → Option (List Nat)
  | _, ss, [] => some ss
  | fs, ss, w :: a :: b :: r => if w = kw "couple" then (num 1 n a).bind fun x => (num 1 n b).bind fun y =>
      if y ≤ x ∨ x ∈ ss ∨ y ∈ fs ∨ y ∈ ss then none else coup n (fs ++ [x]) (ss ++ [y]) r else none
  | _, _, _ => none
def heads (n : Nat) (ss : List Nat) : List Nat := ((List.range n).map (· + 1)).filter fun x => !decide (x ∈ ss)
def raceM : List W → Option (List Nat)
  | _ :: w :: r => if r.length % 3 ≠ 0 ∨ 8 < r.length / 3 then none else (num 2 24 w).bind fun n => (coup n [] [] r).map (heads n)
  | _ => none
structure MPool where
  name : W
  kind : W
  size : Nat
  fields : List (List Nat)
  deriving DecidableEq
def sizesM (kd : W) : Option (Nat × Nat) :=
  if kd = kw "place" then some (1, 4) else if kd = kw "order" then some (2, 4) else if kd = kw "any" then some (2, 3) else if kd = kw "legs" then some (2, 6) else none
def fieldsM (kd : W) (size race : Nat) (R : List (List Nat)) : Option (List (List Nat)) :=
  if kd = kw "legs" then (if R.length < race + size - 1 then none else some ((R.drop (race - 1)).take size))
  else (R[race - 1]?).bind fun f => if f.length < size then none else some [f]
def termsM (t b m u : W) : Option Unit := (num 0 400 t).bind fun _ => (num 1 1000 b).bind fun _ => (num 1 10000 u).bind fun un => (num 0 (2 * un) m).bind fun le =>
  if le ≠ 0 ∧ le < un then none else some ()
def noneM (z kd : W) : Option Unit := if z = kw "refund" ∨ z = kw "carry" ∨ z = kw "fewer" then (if z = kw "fewer" ∧ kd = kw "place" then none else some ()) else none
def poolM (R : List (List Nat)) : List W → Option MPool
  | [p, n, kd, k, f, r, t0, t, b0, b, m0, m, u0, u, z0, z] =>
    if (p = kw "pool" ∧ f = kw "from" ∧ t0 = kw "take" ∧ b0 = kw "break" ∧ m0 = kw "least" ∧ u0 = kw "unit" ∧ z0 = kw "none") ∧ okName n = true then
      (sizesM kd).bind fun lh => (num lh.1 lh.2 k).bind fun size => (num 1 R.length r).bind fun race => (termsM t b m u).bind fun _ => (noneM z kd).bind fun _ =>
      (fieldsM kd size race R).map fun fs => ⟨n, kd, size, fs⟩
    else none
  | _ => none
abbrev St := List (List Nat) × List MPool
def lax (s : St) (l : W) : Option St :=
  if (cut 32 [] l).head? = some (kw "race") ∧ s.2 = [] then (raceM (cut 32 [] l)).map fun h => (s.1 ++ [h], s.2)
  else (poolM s.1 (cut 32 [] l)).map fun p => (s.1, s.2 ++ [p])
def laxAll : St → List W → Option St
  | s, [] => some s
  | s, l :: r => (lax s l).bind fun t => laxAll t r
def dayM : List W → Option Unit
  | [d, n] => if d = kw "day" ∧ okName n = true then some () else none
  | _ => none
def okEnd (s : St) : Bool := decide (1 ≤ s.1.length) && (decide (s.1.length ≤ 16) && (decide (s.2.length ≤ 64) && decide (s.2.map (·.name)).Nodup))
def linesM (cs : W) : Option (List W) := if cs.all isSign = true then
    (if (cut 10 [] cs).getLast? = some [] ∧ 2 ≤ (cut 10 [] cs).length then some (cut 10 [] cs).dropLast else none) else none
def cardM (cs : W) : Option (List MPool) := (linesM cs).bind fun ls => match ls with
  | [] => none
  | d :: r => (dayM (cut 32 [] d)).bind fun _ => (laxAll ([], []) r).bind fun s => if okEnd s = true then some s.2 else none
open Tote
def codes (b : Bytes) : W := b.map UInt8.toNat
theorem codes_inj {a b : Bytes} (h : codes a = codes b) : a = b := by
  unfold codes at h
  induction a generalizing b with
  | nil => cases b with
    | nil => rfl
    | cons x b => simp at h
  | cons x a ih => cases b with
    | nil => simp at h
    | cons y b =>
      simp only [List.map_cons, List.cons.injEq] at h
      rw [UInt8.toNat_inj.mp h.1, ih h.2]
theorem codes_ascii {s : String} (h : codes (ascii s) = kw s) (w : Bytes) : w = ascii s ↔ codes w = kw s := ⟨fun e => by rw [e, h], fun e => codes_inj (e.trans h.symm)⟩
theorem k_day : codes (ascii "day") = kw "day" := by decide
theorem k_race : codes (ascii "race") = kw "race" := by decide
theorem k_pool : codes (ascii "pool") = kw "pool" := by decide
theorem k_couple : codes (ascii "couple") = kw "couple" := by decide
theorem k_from : codes (ascii "from") = kw "from" := by decide
theorem k_take : codes (ascii "take") = kw "take" := by decide
theorem k_break : codes (ascii "break") = kw "break" := by decide
theorem k_least : codes (ascii "least") = kw "least" := by decide
theorem k_unit : codes (ascii "unit") = kw "unit" := by decide
theorem k_none : codes (ascii "none") = kw "none" := by decide
theorem k_refund : codes (ascii "refund") = kw "refund" := by decide
theorem k_carry : codes (ascii "carry") = kw "carry" := by decide
theorem k_fewer : codes (ascii "fewer") = kw "fewer" := by decide
theorem k_place : codes (ascii "place") = kw "place" := by decide
theorem k_order : codes (ascii "order") = kw "order" := by decide
theorem k_any : codes (ascii "any") = kw "any" := by decide
theorem k_legs : codes (ascii "legs") = kw "legs" := by decide
def plain (w : W) : Bool := w.all fun c => small c || dig c
theorem small_codes (c : UInt8) : isSmall c = small c.toNat := by
  unfold isSmall small
  simp only [UInt8.le_iff_toNat_le]; rfl
theorem dig_codes (c : UInt8) : isDigit c = dig c.toNat := by
  unfold isDigit dig
  simp only [UInt8.le_iff_toNat_le]; rfl
theorem all_codes (f : UInt8 → Bool) (g : Nat → Bool) (h : ∀ c, f c = g c.toNat) (w : Bytes) : w.all f = (codes w).all g := by
  unfold codes
  rw [List.all_map]
  congr 1
  funext c
  exact h c
theorem name_codes (w : Bytes) : isName w = (plain (codes w) && okName (codes w)) := by
  unfold isName plain okName
  rw [← all_codes (fun c => isSmall c || isDigit c) _ (fun c => by rw [small_codes, dig_codes]) w]
  have e : (w.head?.map isSmall).getD false = ((codes w).head?.map small).getD false := by
    cases w with
    | nil => rfl
    | cons c w => simp [codes, small_codes]
  rw [e]
  have l : (codes w).length = w.length := by simp [codes]
  rw [l]
  unfold NAME
  cases decide (1 ≤ w.length) <;> cases decide (w.length ≤ 12) <;> cases (w.all fun c => isSmall c || isDigit c) <;> simp
theorem valD_codes (w : Bytes) : w.foldl (fun (n : Nat) (c : UInt8) => 10 * n + (c.toNat - 48)) 0 = valD (codes w) := by
  unfold valD codes
  rw [List.foldl_map]
theorem fold_ge (w : W) (hw : w.all dig = true) : ∀ n, 10 ^ w.length * n ≤ w.foldl (fun n c => 10 * n + (c - 48)) n := by
  induction w with
  | nil => intro n; simp
  | cons c w ih =>
    intro n
    simp only [List.all_cons, Bool.and_eq_true] at hw
    refine Nat.le_trans ?_ (ih hw.2 _)
    rw [List.length_cons, Nat.pow_succ, Nat.mul_assoc]
    exact Nat.mul_le_mul_left _ (by show 10 * n ≤ 10 * n + (c - 48); omega)
theorem val_ge {w : W} (hw : w.all dig = true) (h0 : w ≠ []) (h1 : w.head? ≠ some 48) : 10 ^ (w.length - 1) ≤ valD w := by
  cases w with
  | nil => exact absurd rfl h0
  | cons c w =>
    simp only [List.all_cons, Bool.and_eq_true] at hw
    have hc : 1 ≤ c - 48 := by
      have e := hw.1
      unfold dig at e
      simp at e
      simp at h1
      omega
    have := fold_ge w hw.2 (10 * 0 + (c - 48))
    simp only [valD, List.foldl_cons, List.length_cons, Nat.add_sub_cancel]
    refine Nat.le_trans ?_ this
    refine Nat.le_trans (Nat.le_of_eq (Nat.mul_one _).symm) (Nat.mul_le_mul_left _ (by omega))
theorem num_codes (w : Bytes) {lo hi : Nat} (hhi : hi < 100000) : ((numberOf w).bind fun n => if n < lo ∨ hi < n then none else some n) = num lo hi (codes w) := by
  unfold numberOf num
  rw [valD_codes, all_codes isDigit dig dig_codes]
  have hl : (codes w).length = w.length := by simp [codes]
  have hh : w.head? = some 48 ↔ (codes w).head? = some 48 := by
    cases w with
    | nil => simp [codes]
    | cons c w =>
      simp only [codes, List.head?_cons, List.map_cons, Option.some.injEq]
      exact ⟨fun e => by rw [e]; rfl, fun e => UInt8.toNat_inj.mp e⟩
  have h48 : w = [48] ↔ codes w = [48] := ⟨fun e => by rw [e]; rfl, fun e => codes_inj (e.trans rfl)⟩
  have he : w.isEmpty = true ↔ codes w = [] := by cases w <;> simp [codes]
  generalize hC : codes w = C at *
  by_cases c1 : C = []
  · rw [if_pos (.inl (he.mpr c1)), if_neg (fun q => q.1 c1)]; rfl
  by_cases c2 : C.all dig = true
  rotate_left
  · rw [if_pos (.inr (.inl (by simpa using c2))), if_neg (fun q => c2 q.2.1)]; rfl
  by_cases c3 : C.head? = some 48 ∧ C ≠ [48]
  · rw [if_pos (.inr (.inr ⟨hh.mpr c3.1, fun e => c3.2 (h48.mp e)⟩)), if_neg (fun q => q.2.2.2.1 c3)]; rfl
  rw [if_neg]
  rotate_left
  · rintro (q | q | q)
    · exact c1 (he.mp q)
    · rw [c2] at q; cases q
    · exact c3 ⟨hh.mp q.1, fun e => q.2 (h48.mpr e)⟩
  show (if valD C < lo ∨ hi < valD C then none else some (valD C)) = _
  by_cases c4 : lo ≤ valD C ∧ valD C ≤ hi
  · rw [if_neg (by omega), if_pos]
    refine ⟨c1, c2, ?_, c3, c4.1, c4.2⟩
    by_cases z : C.head? = some 48
    · have : C = [48] := Classical.byContradiction fun e => c3 ⟨z, e⟩
      rw [this]; decide
    · have g := val_ge c2 c1 z
      have : C.length - 1 < 5 := by
        apply Classical.byContradiction
        intro h
        have : 10 ^ 5 ≤ 10 ^ (C.length - 1) := Nat.pow_le_pow_right (by decide) (by omega)
        omega
      omega
  · rw [if_pos (by omega), if_neg (fun q => c4 ⟨q.2.2.2.2.1, q.2.2.2.2.2⟩)]
end Mir
set_option linter.all false
namespace Mir
open Tote
theorem opt_bind {α β : Type} (x : Except Fault α) (f : α → Except Fault β) : (x >>= f).toOption = x.toOption.bind fun a => (f a).toOption := by cases x <;> rfl
theorem opt_map {α β : Type} (x : Except Fault α) (f : α → β) : (x.map f).toOption = x.toOption.map f := by cases x <;> rfl
theorem opt_pure {α : Type} (a : α) : (pure a : Except Fault α).toOption = some a := rfl
theorem opt_error {α : Type} (e : Fault) : (Except.error e : Except Fault α).toOption = none := rfl
abbrev cw (w : Word) : W := codes w.w
theorem next_cons (e : Nat) (w : Word) (r : List Word) : (next e (w :: r)).toOption = some (w, r) := rfl
theorem must_cons {s : String} (h : codes (ascii s) = kw s) (e : Nat) (w : Word) (r : List Word) : (must e s (w :: r)).toOption = if cw w = kw s then some r else none := by
  unfold must
  rw [opt_bind, next_cons]
  show (if w.w = ascii s then (pure r : Except Fault (List Word)) else _).toOption = _
  by_cases q : w.w = ascii s
  · rw [if_pos q, if_pos ((codes_ascii h _).mp q)]; rfl
  · rw [if_neg q, if_neg (fun z => q ((codes_ascii h _).mpr z))]; rfl
theorem number_nil (e lo hi : Nat) : (number e lo hi []).toOption = none := rfl
theorem number_cons (e : Nat) {lo hi : Nat} (hhi : hi < 100000) (w : Word) (r : List Word) : (number e lo hi (w :: r)).toOption = (num lo hi (cw w)).map fun n => ((n, w.at_), r) := by
  unfold number
  rw [opt_bind, next_cons, ← show _ = num lo hi (cw w) from num_codes w.w hhi]
  show (match numberOf w.w with | none => _ | some n => _ : Except Fault _).toOption = _
  cases numberOf w.w with
  | none => rfl
  | some n =>
    show (if n < lo ∨ hi < n then _ else _ : Except Fault _).toOption = Option.map _ (if n < lo ∨ hi < n then none else some n)
    split <;> rfl
theorem newName_nil (e : Nat) (had : List Bytes) : (newName e had []).toOption = none := rfl
theorem newName_cons (e : Nat) (had : List Bytes) (w : Word) (r : List Word) : (newName e had (w :: r)).toOption =
    if (plain (cw w) = true ∧ okName (cw w) = true) ∧ ¬ cw w ∈ had.map codes then some (w.w, r) else none := by
  unfold newName
  rw [opt_bind, next_cons]
  show (if isName w.w = false then _ else if had.contains w.w = true then _ else _ : Except Fault _).toOption = _
  have hm : cw w ∈ had.map codes ↔ had.contains w.w = true := by
    rw [List.contains_iff_mem, List.mem_map]
    exact ⟨fun ⟨x, h1, h2⟩ => by rw [← codes_inj h2]; exact h1, fun h => ⟨_, h, rfl⟩⟩
  have hn := name_codes w.w
  by_cases q : isName w.w = false
  · rw [if_pos q, if_neg]
    · rfl
    · rintro ⟨⟨a, b⟩, _⟩
      have : (plain (codes w.w) && okName (codes w.w)) = true := by rw [Bool.and_eq_true]; exact ⟨a, b⟩
      rw [← hn, q] at this; cases this
  · rw [if_neg q]
    have q2 : (plain (codes w.w) && okName (codes w.w)) = true := by rw [← hn]; simpa using q
    rw [Bool.and_eq_true] at q2
    by_cases z : had.contains w.w = true
    · rw [if_pos z, if_neg (fun y => y.2 (hm.mpr z))]; rfl
    · rw [if_neg z, if_pos ⟨q2, fun y => z (hm.mp y)⟩]; rfl
theorem holds_opt (b : Bool) (k p : Nat) : (holds b k p).toOption = if b = true then some () else none := by unfold holds; split <;> rfl
theorem closed_nil : (closed []).toOption = some () := rfl
theorem closed_cons (w : Word) (r : List Word) : (closed (w :: r)).toOption = none := rfl
def kindM (kd : W) : Option Kind :=
  if kd = kw "place" then some .place else if kd = kw "order" then some .order else if kd = kw "any" then some .any else if kd = kw "legs" then some .legs else none
def nonesM (z : W) : Option None_ := if z = kw "refund" then some .refund else if z = kw "carry" then some .carry else if z = kw "fewer" then some .fewer else none
def nones2M (z : W) : Option None_ := if z = kw "refund" then some .refund else if z = kw "carry" then some .carry else none
theorem beq_ascii {s : String} (h : codes (ascii s) = kw s) (w : Bytes) : (ascii s == w) = decide (codes w = kw s) := by
  by_cases q : codes w = kw s
  · rw [decide_eq_true q, (codes_ascii h w).mpr q]; exact beq_self_eq_true _
  · rw [decide_eq_false q]
    exact beq_eq_false_iff_ne.mpr fun e => q ((codes_ascii h w).mp e.symm)
theorem oneOf_gen {α : Type} (e : Nat) (l : List (α × String)) (w : Word) (r : List Word) : (oneOf e l (w :: r)).toOption = ((l.find? fun (y : α × String) => ascii y.2 == w.w).map (·.1)).map fun k => ((k, w.at_), r) := by
  unfold oneOf
  rw [opt_bind, next_cons]
  show (match l.find? fun (y : α × String) => ascii y.2 == w.w with | none => _ | some y => _ : Except Fault _).toOption = _
  cases l.find? fun (y : α × String) => ascii y.2 == w.w <;> rfl
theorem oneOf_kind (e : Nat) (w : Word) (r : List Word) : (oneOf e KINDS (w :: r)).toOption = (kindM (cw w)).map fun k => ((k, w.at_), r) := by
  rw [oneOf_gen]
  congr 1
  unfold KINDS kindM
  simp only [List.find?_cons, beq_ascii k_place, beq_ascii k_order, beq_ascii k_any, beq_ascii k_legs, List.find?_nil]
  by_cases h1 : codes w.w = kw "place"
  · rw [decide_eq_true h1, if_pos h1]; rfl
  by_cases h2 : codes w.w = kw "order"
  · rw [decide_eq_false h1, decide_eq_true h2, if_neg h1, if_pos h2]; rfl
  by_cases h3 : codes w.w = kw "any"
  · rw [decide_eq_false h1, decide_eq_false h2, decide_eq_true h3, if_neg h1, if_neg h2, if_pos h3]; rfl
  by_cases h4 : codes w.w = kw "legs"
  · rw [decide_eq_false h1, decide_eq_false h2, decide_eq_false h3, decide_eq_true h4, if_neg h1, if_neg h2, if_neg h3, if_pos h4]; rfl
  simp [h1, h2, h3, h4]
theorem oneOf_none (e : Nat) (w : Word) (r : List Word) : (oneOf e NONES (w :: r)).toOption = (nonesM (cw w)).map fun k => ((k, w.at_), r) := by
  rw [oneOf_gen]
  congr 1
  unfold NONES nonesM
  simp only [List.find?_cons, beq_ascii k_refund, beq_ascii k_carry, beq_ascii k_fewer, List.find?_nil]
  by_cases h1 : codes w.w = kw "refund"
  · rw [decide_eq_true h1, if_pos h1]; rfl
  by_cases h2 : codes w.w = kw "carry"
  · rw [decide_eq_false h1, decide_eq_true h2, if_neg h1, if_pos h2]; rfl
  by_cases h3 : codes w.w = kw "fewer"
  · rw [decide_eq_false h1, decide_eq_false h2, decide_eq_true h3, if_neg h1, if_neg h2, if_pos h3]; rfl
  simp [h1, h2, h3]
theorem oneOf_none2 (e : Nat) (w : Word) (r : List Word) : (oneOf e (NONES.take 2) (w :: r)).toOption = (nones2M (cw w)).map fun k => ((k, w.at_), r) := by
  rw [oneOf_gen]
  congr 1
  unfold NONES nones2M
  simp only [List.take, List.find?_cons, beq_ascii k_refund, beq_ascii k_carry, List.find?_nil]
  by_cases h1 : codes w.w = kw "refund"
  · rw [decide_eq_true h1, if_pos h1]; rfl
  by_cases h2 : codes w.w = kw "carry"
  · rw [decide_eq_false h1, decide_eq_true h2, if_neg h1, if_pos h2]; rfl
  simp [h1, h2]
theorem putB_mem (c x : Nat × Nat) : ∀ l : List (Nat × Nat), x ∈ putB c l ↔ x = c ∨ x ∈ l
  | [] => by simp [putB]
  | y :: l => by
    unfold putB
    split
    · simp
    · simp only [List.mem_cons, putB_mem c x l]
      exact ⟨fun h => by rcases h with h | h | h <;> simp [h], fun h => by rcases h with h | h | h <;> simp [h]⟩
structure Had (fs ss : List Nat) (had : List (Nat × Nat)) : Prop where
  f : ∀ x, x ∈ fs ↔ ∃ c ∈ had, c.1 = x
  s : ∀ x, x ∈ ss ↔ ∃ c ∈ had, c.2 = x
  lt : ∀ c ∈ had, c.1 < c.2
theorem Had.put {fs ss : List Nat} {had : List (Nat × Nat)} (h : Had fs ss had) {x y : Nat} (hxy : x < y) : Had (fs ++ [x]) (ss ++ [y]) (putB (x, y) had) := by
  refine ⟨fun z => ?_, fun z => ?_, fun c hc => ?_⟩
  · rw [List.mem_append, h.f, List.mem_singleton]
    constructor
    · rintro (⟨c, h1, h2⟩ | rfl)
      · exact ⟨c, (putB_mem _ _ _).mpr (.inr h1), h2⟩
      · exact ⟨_, (putB_mem _ _ _).mpr (.inl rfl), rfl⟩
    · rintro ⟨c, h1, h2⟩
      rcases (putB_mem _ _ _).mp h1 with rfl | h1
      · exact .inr h2.symm
      · exact .inl ⟨c, h1, h2⟩
  · rw [List.mem_append, h.s, List.mem_singleton]
    constructor
    · rintro (⟨c, h1, h2⟩ | rfl)
      · exact ⟨c, (putB_mem _ _ _).mpr (.inr h1), h2⟩
      · exact ⟨_, (putB_mem _ _ _).mpr (.inl rfl), rfl⟩
    · rintro ⟨c, h1, h2⟩
      rcases (putB_mem _ _ _).mp h1 with rfl | h1
      · exact .inr h2.symm
      · exact .inl ⟨c, h1, h2⟩
  · rcases (putB_mem _ _ _).mp hc with rfl | h1
    · exact hxy
    · exact h.lt c h1
theorem Had.heads {fs ss : List Nat} {had : List (Nat × Nat)} (h : Had fs ss had) (n : Nat) : (Race.mk n had).heads = heads n ss := by
  unfold Race.heads Mir.heads
  refine List.filter_congr fun x _ => ?_
  unfold Race.head
  show (((had.find? fun (c : Nat × Nat) => c.2 == x).map fun c => c.1).getD x == x) = _
  cases e : had.find? fun (c : Nat × Nat) => c.2 == x with
  | none =>
    have : ¬ x ∈ ss := fun hx => by
      obtain ⟨c, h1, h2⟩ := (h.s x).mp hx
      have := List.find?_eq_none.mp e c h1
      simp [h2] at this
    simp [this]
  | some c =>
    have h1 := List.mem_of_find?_eq_some e
    have h2 : c.2 = x := by simpa using List.find?_some e
    have h3 := h.lt c h1
    have : x ∈ ss := (h.s x).mpr ⟨c, h1, h2⟩
    simp [this]
    omega
theorem couples_eq (e n : Nat) (hn : n < 100000) : ∀ (k : Nat) (fs ss : List Nat) (had : List (Nat × Nat)) (l : List Word), Had fs ss had →
    ((couplesIn e n k had l).toOption.map fun c => heads n (c.map (·.2))) = (if l.length ≤ 3 * k then (coup n fs ss (l.map cw)).map (heads n) else none) ∧ (∀ c, (couplesIn e n k had l).toOption = some c → ∃ fs' ss', Had fs' ss' c) := by
  intro k
  induction k with
  | zero =>
    intro fs ss had l H
    cases l with
    | nil =>
      refine ⟨?_, fun c hc => ?_⟩
      · show some (heads n (had.map (·.2))) = some (heads n ss)
        congr 1
        unfold heads
        refine List.filter_congr fun x _ => ?_
        congr 2
        rw [H.s x, List.mem_map]
      · cases hc
        exact ⟨fs, ss, H⟩
    | cons w l =>
      have e0 : (couplesIn e n 0 had (w :: l)).toOption = none := by
        show (if w.w = ascii "couple" then Except.error _ else Except.error _ : Except Fault _).toOption = none
        split <;> rfl
      rw [e0]
      exact ⟨by rw [if_neg (by simp)]; rfl, fun c hc => by cases hc⟩
  | succ k ih =>
    intro fs ss had l H
    have hnil : (couplesIn e n (k + 1) had []).toOption = some had := rfl
    have hcons : ∀ w r, (couplesIn e n (k + 1) had (w :: r)).toOption = (must e "couple" (w :: r)).toOption.bind fun m => (number e 1 n m).toOption.bind fun a =>
        (holds (!(had.any fun (x : Nat × Nat) => x.2 == a.1.1)) 4 a.1.2).toOption.bind fun _ => (number e 1 n a.2).toOption.bind fun b =>
        (holds (decide (a.1.1 < b.1.1) && !(had.any fun (x : Nat × Nat) => x.1 == b.1.1 || x.2 == b.1.1)) 4 b.1.2).toOption.bind fun _ =>
        (couplesIn e n k (putB (a.1.1, b.1.1) had) b.2).toOption := by
      intro w r
      show ((do
        let m ← must e "couple" (w :: r)
        let a ← number e 1 n m
        let _ ← holds (!(had.any fun (x : Nat × Nat) => x.2 == a.1.1)) 4 a.1.2
        let b ← number e 1 n a.2
        let _ ← holds (decide (a.1.1 < b.1.1) && !(had.any fun (x : Nat × Nat) => x.1 == b.1.1 || x.2 == b.1.1)) 4 b.1.2
        couplesIn e n k (putB (a.1.1, b.1.1) had) b.2 : Except Fault _)).toOption = _
      simp only [opt_bind]
    match l with
    | [] =>
      rw [hnil]
      refine ⟨?_, fun c hc => by cases hc; exact ⟨fs, ss, H⟩⟩
      rw [if_pos (by simp)]
      show some (heads n (had.map (·.2))) = some (heads n ss)
      congr 1
      unfold heads
      refine List.filter_congr fun x _ => ?_
      congr 2
      rw [H.s x, List.mem_map]
    | [w] =>
      rw [hcons, must_cons k_couple]
      have : (if cw w = kw "couple" then some ([] : List Word) else none).bind (fun m => (number e 1 n m).toOption.bind fun a =>
        (holds (!(had.any fun (x : Nat × Nat) => x.2 == a.1.1)) 4 a.1.2).toOption.bind fun _ => (number e 1 n a.2).toOption.bind fun b =>
        (holds (decide (a.1.1 < b.1.1) && !(had.any fun (x : Nat × Nat) => x.1 == b.1.1 || x.2 == b.1.1)) 4 b.1.2).toOption.bind fun _ =>
        (couplesIn e n k (putB (a.1.1, b.1.1) had) b.2).toOption) = none := by
        split <;> rfl
      rw [this]
      exact ⟨by simp [coup], fun c hc => by cases hc⟩
    | [w, a] =>
      rw [hcons, must_cons k_couple]
      by_cases hw : cw w = kw "couple"
      · rw [if_pos hw]
        simp only [Option.bind_some, number_cons e hn, number_nil]
        cases num 1 n (cw a) with
        | none => exact ⟨by simp [coup], fun c hc => by cases hc⟩
        | some x =>
          simp only [Option.map_some, Option.bind_some, number_nil, holds_opt]
          have : ((if (!(had.any fun (y : Nat × Nat) => y.2 == x)) = true then some () else none).bind fun _ => (none : Option (List (Nat × Nat)))) = none := by split <;> rfl
          refine ⟨?_, fun c hc => ?_⟩
          · simp [coup]
          · simp at hc
      · rw [if_neg hw]
        exact ⟨by simp [coup], fun c hc => by cases hc⟩
    | w :: a :: b :: r =>
      rw [hcons, must_cons k_couple]
      by_cases hw : cw w = kw "couple"
      · rw [if_pos hw]
        simp only [Option.bind_some, number_cons e hn, List.map_cons, coup, if_pos hw]
        cases ea : num 1 n (cw a) with
        | none => exact ⟨by simp, fun c hc => by cases hc⟩
        | some x =>
          simp only [Option.map_some, Option.bind_some, number_cons e hn, holds_opt]
          cases eb : num 1 n (cw b) with
          | none =>
            refine ⟨?_, fun c hc => ?_⟩
            · simp
            · simp at hc
          | some y =>
            simp only [Option.map_some, Option.bind_some]
            have c1 : (!(had.any fun (z : Nat × Nat) => z.2 == x)) = true ↔ ¬ x ∈ ss := by
              rw [H.s x, Bool.not_eq_true', ← Bool.not_eq_true, List.any_eq_true]
              exact not_congr ⟨fun ⟨z, h1, h2⟩ => ⟨z, h1, by simpa using h2⟩, fun ⟨z, h1, h2⟩ => ⟨z, h1, by simpa using h2⟩⟩
            have c2 : (decide (x < y) && !(had.any fun (z : Nat × Nat) => z.1 == y || z.2 == y)) = true ↔ ¬ y ≤ x ∧ ¬ y ∈ fs ∧ ¬ y ∈ ss := by
              rw [H.s y, H.f y, Bool.and_eq_true, decide_eq_true_iff, Bool.not_eq_true', ← Bool.not_eq_true, List.any_eq_true]
              constructor
              · rintro ⟨h1, h2⟩
                exact ⟨by omega, fun ⟨z, g1, g2⟩ => h2 ⟨z, g1, by simp [g2]⟩, fun ⟨z, g1, g2⟩ => h2 ⟨z, g1, by simp [g2]⟩⟩
              · rintro ⟨h1, h2, h3⟩
                refine ⟨by omega, fun ⟨z, g1, g2⟩ => ?_⟩
                rw [Bool.or_eq_true] at g2
                rcases g2 with g2 | g2
                · exact h2 ⟨z, g1, by simpa using g2⟩
                · exact h3 ⟨z, g1, by simpa using g2⟩
            by_cases bad : y ≤ x ∨ x ∈ ss ∨ y ∈ fs ∨ y ∈ ss
            · rw [if_pos bad]
              have : ((if (!(had.any fun (z : Nat × Nat) => z.2 == x)) = true then some () else none).bind fun (_ : Unit) =>
                  (if (decide (x < y) && !(had.any fun (z : Nat × Nat) => z.1 == y || z.2 == y)) = true then some () else none).bind fun (_ : Unit) => (couplesIn e n k (putB (x, y) had) r).toOption) = none := by
                by_cases q1 : (!(had.any fun (z : Nat × Nat) => z.2 == x)) = true
                · rw [if_pos q1]
                  have n1 := c1.mp q1
                  by_cases q2 : (decide (x < y) && !(had.any fun (z : Nat × Nat) => z.1 == y || z.2 == y)) = true
                  · have n2 := c2.mp q2
                    exact absurd bad (by simp [n1, n2.2.1, n2.2.2]; omega)
                  · rw [if_neg q2]; rfl
                · rw [if_neg q1]; rfl
              rw [this]
              exact ⟨by simp, fun c hc => by cases hc⟩
            · rw [if_neg bad]
              have n1 : ¬ y ≤ x := fun z => bad (.inl z)
              have n2 : ¬ x ∈ ss := fun z => bad (.inr (.inl z))
              have n3 : ¬ y ∈ fs := fun z => bad (.inr (.inr (.inl z)))
              have n4 : ¬ y ∈ ss := fun z => bad (.inr (.inr (.inr z)))
              rw [if_pos (c1.mpr n2), if_pos (c2.mpr ⟨n1, n3, n4⟩)]
              simp only [Option.bind_some]
              have := ih (fs ++ [x]) (ss ++ [y]) (putB (x, y) had) r (H.put (by omega))
              refine ⟨?_, this.2⟩
              rw [this.1]
              have : (List.length (w :: a :: b :: r) ≤ 3 * (k + 1)) ↔ (r.length ≤ 3 * k) := by simp only [List.length_cons]; omega
              simp only [this]
      · rw [if_neg hw]
        exact ⟨by simp [coup, hw], fun c hc => by cases hc⟩
theorem coup_len {n : Nat} : ∀ {fs ss : List Nat} {l : List W} {x : List Nat}, coup n fs ss l = some x → l.length % 3 = 0
  | fs, ss, [], x, _ => rfl
  | fs, ss, [w], x, h => by simp [coup] at h
  | fs, ss, [w, a], x, h => by simp [coup] at h
  | fs, ss, w :: a :: b :: r, x, h => by
    unfold coup at h
    split at h
    · cases e1 : num 1 n a with
      | none => rw [e1] at h; cases h
      | some p =>
        rw [e1] at h
        cases e2 : num 1 n b with
        | none => rw [e2] at h; cases h
        | some q =>
          rw [e2] at h
          simp only [Option.bind_some] at h
          split at h
          · cases h
          · have := coup_len h
            simp only [List.length_cons]
            omega
    · cases h
theorem num_lt {lo hi : Nat} {w : W} {n : Nat} (h : num lo hi w = some n) : lo ≤ n ∧ n ≤ hi := by
  unfold num at h
  split at h
  · next q => cases h; exact ⟨q.2.2.2.2.1, q.2.2.2.2.2⟩
  · cases h
theorem heads_eq (r : Race) (h : ∃ fs ss, Had fs ss r.couples) : r.heads = heads r.runners (r.couples.map (·.2)) := by
  obtain ⟨fs, ss, H⟩ := h
  have := H.heads r.runners
  refine this.trans ?_
  unfold heads
  refine List.filter_congr fun x _ => ?_
  congr 2
  rw [H.s x, List.mem_map]
theorem race_eq (e : Nat) (w0 : W) (l : List Word) : (raceIn e l).toOption.map Race.heads = raceM (w0 :: l.map cw) := by
  unfold raceIn
  rw [opt_bind]
  cases l with
  | nil => rfl
  | cons w r =>
    rw [number_cons e (by decide)]
    show _ = (if (r.map cw).length % 3 ≠ 0 ∨ 8 < (r.map cw).length / 3 then none else (num 2 24 (cw w)).bind fun n => (coup n [] [] (r.map cw)).map (heads n))
    cases en : num 2 24 (cw w) with
    | none =>
      unfold RUNNERS
      rw [en]
      split <;> rfl
    | some n =>
      unfold RUNNERS
      rw [en]
      simp only [Option.map_some, Option.bind_some, opt_bind, opt_pure]
      have hn := num_lt en
      have H0 : Had [] [] [] := ⟨by simp, by simp, by simp⟩
      have key := couples_eq e n (by omega) COUPLES [] [] [] r H0
      have e1 : (((couplesIn e n COUPLES [] r).toOption.bind fun c => some (Race.mk n c)).map Race.heads) = (couplesIn e n COUPLES [] r).toOption.map fun c => heads n (c.map (·.2)) := by
        cases ec : (couplesIn e n COUPLES [] r).toOption with
        | none => rfl
        | some c => exact congrArg some (heads_eq ⟨n, c⟩ (key.2 c ec))
      rw [e1, key.1]
      unfold COUPLES
      rw [List.length_map]
      by_cases c1 : r.length % 3 ≠ 0 ∨ 8 < r.length / 3
      · rw [if_pos c1]
        split
        · next q =>
          have : r.length % 3 ≠ 0 := by omega
          cases ec : coup n [] [] (r.map cw) with
          | none => rfl
          | some x => exact absurd (by have := coup_len ec; rw [List.length_map] at this; exact this) this
        · rfl
      · rw [if_neg c1, if_pos (by omega)]
theorem num_plain {lo hi : Nat} {w : W} {n : Nat} (h : num lo hi w = some n) : plain w = true := by
  unfold num at h
  split at h
  · next q =>
    unfold plain
    refine List.all_eq_true.mpr fun c hc => ?_
    rw [List.all_eq_true.mp q.2.1 c hc, Bool.or_true]
  · cases h
theorem num_ne {lo hi : Nat} {w : W} {n : Nat} (h : num lo hi w = some n) : w ≠ [] := by
  unfold num at h
  split at h
  · next q => exact q.1
  · cases h
def Good (w : W) : Prop := plain w = true ∧ w ≠ []
theorem num_good {lo hi : Nat} {w : W} {n : Nat} (h : num lo hi w = some n) : Good w := ⟨num_plain h, num_ne h⟩
theorem coup_good {n : Nat} : ∀ {fs ss : List Nat} {l : List W} {x : List Nat}, coup n fs ss l = some x → ∀ w ∈ l, Good w
  | fs, ss, [], x, _ => by simp
  | fs, ss, [w], x, h => by simp [coup] at h
  | fs, ss, [w, a], x, h => by simp [coup] at h
  | fs, ss, w :: a :: b :: r, x, h => by
    unfold coup at h
    split at h
    · next hw =>
      cases e1 : num 1 n a with
      | none => rw [e1] at h; cases h
      | some p =>
        rw [e1] at h
        cases e2 : num 1 n b with
        | none => rw [e2] at h; cases h
        | some q =>
          rw [e2] at h
          simp only [Option.bind_some] at h
          split at h
          · cases h
          · have ih := coup_good h
            intro z hz
            rcases List.mem_cons.mp hz with rfl | hz
            · rw [hw]; exact ⟨by decide, by decide⟩
            rcases List.mem_cons.mp hz with rfl | hz
            · exact num_good e1
            rcases List.mem_cons.mp hz with rfl | hz
            · exact num_good e2
            exact ih z hz
    · cases h
theorem race_good {w0 : W} {l : List W} {x : List Nat} (h : raceM (w0 :: l) = some x) : ∀ w ∈ l, Good w := by
  cases l with
  | nil => simp
  | cons w r =>
    have h : (if r.length % 3 ≠ 0 ∨ 8 < r.length / 3 then none else (num 2 24 w).bind fun n => (coup n [] [] r).map (heads n)) = some x := h
    split at h
    · cases h
    · cases en : num 2 24 w with
      | none => rw [en] at h; cases h
      | some n =>
        rw [en] at h
        simp only [Option.bind_some] at h
        cases ec : coup n [] [] r with
        | none => rw [ec] at h; cases h
        | some s =>
          intro z hz
          rcases List.mem_cons.mp hz with rfl | hz
          · exact num_good en
          · exact coup_good ec z hz
end Mir
set_option linter.all false
namespace Mir
open Tote
def kindText (k : Kind) : W := match k with
  | .place => kw "place" | .order => kw "order" | .any => kw "any" | .legs => kw "legs"
def mp (C : Card) (p : Pool) : MPool := ⟨codes p.name, kindText p.kind, p.k, C.sets p⟩
theorem kindM_some {kd : W} {k : Kind} (h : kindM kd = some k) : kd = kindText k ∧ sizesM kd = some (leastK k, mostK k) := by
  unfold kindM at h
  unfold sizesM
  split at h
  · next q => cases h; exact ⟨q, by rw [if_pos q]; rfl⟩
  next q1 =>
  split at h
  · next q => cases h; exact ⟨q, by rw [if_neg q1, if_pos q]; rfl⟩
  next q2 =>
  split at h
  · next q => cases h; exact ⟨q, by rw [if_neg q1, if_neg q2, if_pos q]; rfl⟩
  next q3 =>
  split at h
  · next q => cases h; exact ⟨q, by rw [if_neg q1, if_neg q2, if_neg q3, if_pos q]; rfl⟩
  cases h
theorem kindM_none {kd : W} (h : kindM kd = none) : sizesM kd = none := by
  unfold kindM at h
  unfold sizesM
  split at h
  · cases h
  next q1 =>
  split at h
  · cases h
  next q2 =>
  split at h
  · cases h
  next q3 =>
  split at h
  · cases h
  next q4 => rw [if_neg q1, if_neg q2, if_neg q3, if_neg q4]
theorem kindText_legs (k : Kind) : kindText k = kw "legs" ↔ k = .legs := by cases k <;> decide
theorem kindText_place (k : Kind) : kindText k = kw "place" ↔ k = .place := by cases k <;> decide
theorem sets_legs (C : Card) (p : Pool) (hk : p.kind = .legs) (h1 : 1 ≤ p.race) (h2 : p.race + p.k ≤ C.races.length + 1) : C.sets p = ((C.races.map Race.heads).drop (p.race - 1)).take p.k := by
  unfold Card.sets Pool.legs
  rw [if_pos hk]
  apply List.ext_getElem?
  intro i
  rw [List.getElem?_map, List.getElem?_take, List.getElem?_drop, List.getElem?_map]
  by_cases hi : i < p.k
  · rw [if_pos hi, List.getElem?_range hi]
    have e : p.race + i - 1 = p.race - 1 + i := by omega
    have hl : p.race - 1 + i < C.races.length := by omega
    show some (C.headsOf (p.race + i)) = _
    unfold Card.headsOf
    rw [e, List.getElem?_eq_getElem hl]
    rfl
  · rw [if_neg hi, List.getElem?_eq_none (by rw [List.length_range]; omega)]
    rfl
theorem sets_one (C : Card) (p : Pool) (hk : p.kind ≠ .legs) : C.sets p = [C.headsOf p.race] := by
  unfold Card.sets Pool.legs
  rw [if_neg hk]
  rfl
theorem fields_eq (C : Card) (p : Pool) (hr : 1 ≤ p.race) (hr2 : p.race ≤ C.races.length) (hk1 : 1 ≤ p.k) :
    fieldsM (kindText p.kind) p.k p.race (C.races.map Race.heads) = if (p.kind != .legs || decide (p.race + p.k ≤ C.races.length + 1)) = true ∧
      (p.kind == .legs || ((C.races[p.race - 1]?).map fun (x : Race) => decide (p.k ≤ x.heads.length)).getD false) = true then some (C.sets p) else none := by
  unfold fieldsM
  by_cases hk : p.kind = .legs
  · rw [if_pos ((kindText_legs _).mpr hk), List.length_map]
    by_cases h2 : p.race + p.k ≤ C.races.length + 1
    · rw [if_neg (by omega), if_pos, sets_legs C p hk hr h2]
      simp [hk, h2]
    · rw [if_pos (by omega), if_neg]
      simp [hk, h2]
  · rw [if_neg (fun q => hk ((kindText_legs _).mp q)), sets_one C p hk, List.getElem?_map]
    have hl : p.race - 1 < C.races.length := by omega
    unfold Card.headsOf
    rw [List.getElem?_eq_getElem hl]
    have hb : (p.kind == Kind.legs) = false := by simp [hk]
    simp only [Option.map_some, Option.bind_some, Option.getD_some, bne, hb]
    by_cases h3 : C.races[p.race - 1].heads.length < p.k
    · rw [if_pos h3, if_neg]
      simp; omega
    · rw [if_neg h3, if_pos]
      simp; omega
theorem bind_none {α β : Type} (x : Option α) : (x.bind fun _ => (none : Option β)) = none := by cases x <;> rfl
theorem terms_eq (t b m u : W) : (termsM t b m u) = (num 0 400 t).bind fun _ => (num 1 1000 b).bind fun _ => (num 0 20000 m).bind fun le => (num 1 10000 u).bind fun un =>
    if (le == 0 || inside un (2 * un) le) = true then some () else none := by
  unfold termsM
  congr 1; funext _; congr 1; funext _
  cases eu : num 1 10000 u with
  | none => simp
  | some un =>
    have hu := num_lt eu
    simp only [Option.bind_some]
    have hc : ∀ le : Nat, (le == 0 || inside un (2 * un) le) = true ↔ le = 0 ∨ (un ≤ le ∧ le ≤ 2 * un) := fun le => by
      unfold inside; simp
    have hm : num 0 (2 * un) m = (num 0 20000 m).bind fun le => if le ≤ 2 * un then some le else none := by
      unfold num
      by_cases q : m ≠ [] ∧ m.all dig = true ∧ m.length ≤ 5 ∧ ¬ (m.head? = some 48 ∧ m ≠ [48])
      · by_cases h1 : valD m ≤ 2 * un
        · rw [if_pos ⟨q.1, q.2.1, q.2.2.1, q.2.2.2, Nat.zero_le _, h1⟩, if_pos ⟨q.1, q.2.1, q.2.2.1, q.2.2.2, Nat.zero_le _, by omega⟩]
          simp [h1]
        · rw [if_neg (fun z => h1 z.2.2.2.2.2)]
          split
          · simp [h1]
          · rfl
      · rw [if_neg (fun z => q ⟨z.1, z.2.1, z.2.2.1, z.2.2.2.1⟩), if_neg (fun z => q ⟨z.1, z.2.1, z.2.2.1, z.2.2.2.1⟩)]; rfl
    rw [hm]
    cases em : num 0 20000 m with
    | none => rfl
    | some le =>
      simp only [Option.bind_some]
      by_cases h1 : le ≤ 2 * un
      · rw [if_pos h1]
        simp only [Option.bind_some]
        by_cases h2 : le ≠ 0 ∧ le < un
        · rw [if_pos h2, if_neg (fun z => by have := (hc le).mp z; omega)]
        · rw [if_neg h2, if_pos ((hc le).mpr (by omega))]
      · rw [if_neg h1, if_neg (fun z => by have := (hc le).mp z; omega)]; rfl
theorem none_eq (z : W) (k : Kind) : ((if k = .place then nones2M z else nonesM z).bind fun _ => some ()) = noneM z (kindText k) := by
  unfold nones2M nonesM noneM
  simp only [kindText_place]
  have d1 : ¬ kw "refund" = kw "fewer" := by decide
  have d2 : ¬ kw "carry" = kw "fewer" := by decide
  by_cases hk : k = .place
  · simp only [if_pos hk, hk, and_true]
    by_cases h1 : z = kw "refund"
    · subst h1; simp [d1]
    by_cases h2 : z = kw "carry"
    · subst h2; simp [h1, d2]
    simp only [if_neg h1, if_neg h2, h1, h2, false_or]
    split <;> simp_all
  · simp only [if_neg hk, hk, and_false, if_false]
    by_cases h1 : z = kw "refund"
    · simp [h1]
    by_cases h2 : z = kw "carry"
    · subst h2; simp [h1]
    by_cases h3 : z = kw "fewer"
    · subst h3; simp [h1, h2]
    simp [h1, h2, h3]
theorem okName_ne {w : W} (h : okName w = true) : w ≠ [] := by rintro rfl; exact absurd h (by decide)
theorem ite_bind {α β : Type} {c : Prop} [Decidable c] (a : α) (f : α → Option β) : (if c then some a else none).bind f = if c then f a else none := by split <;> rfl
theorem map_bind {α β γ : Type} (x : Option α) (g : α → β) (f : β → Option γ) : (x.map g).bind f = x.bind fun a => f (g a) := by cases x <;> rfl
theorem next_some {e : Nat} {l : List Word} {x : Word × List Word} (h : (next e l).toOption = some x) : l.length = x.2.length + 1 := by
  cases l with
  | nil => cases h
  | cons w r => cases h; rfl
theorem must_some {e : Nat} {s : String} {l r : List Word} (h : (must e s l).toOption = some r) : l.length = r.length + 1 := by
  unfold must at h
  rw [opt_bind, Option.bind_eq_some_iff] at h
  obtain ⟨x, h1, h2⟩ := h
  have : r = x.2 := by
    by_cases q : x.1.w = ascii s
    · rw [if_pos q] at h2; cases h2; rfl
    · rw [if_neg q] at h2; cases h2
  rw [this, next_some h1]
theorem number_some {e lo hi : Nat} {l : List Word} {x : (Nat × Nat) × List Word} (h : (number e lo hi l).toOption = some x) : l.length = x.2.length + 1 := by
  unfold number at h
  rw [opt_bind, Option.bind_eq_some_iff] at h
  obtain ⟨y, h1, h2⟩ := h
  have : x.2 = y.2 := by
    revert h2
    cases numberOf y.1.w with
    | none => intro h2; cases h2
    | some n =>
      intro h2
      by_cases q : n < lo ∨ hi < n
      · have h2 : (if n < lo ∨ hi < n then _ else _ : Except Fault _).toOption = some x := h2
        rw [if_pos q] at h2; cases h2
      · have h2 : (if n < lo ∨ hi < n then _ else _ : Except Fault _).toOption = some x := h2
        rw [if_neg q] at h2; cases h2; rfl
  rw [this, next_some h1]
theorem newName_some {e : Nat} {had : List Bytes} {l : List Word} {x : Bytes × List Word} (h : (newName e had l).toOption = some x) : l.length = x.2.length + 1 := by
  unfold newName at h
  rw [opt_bind, Option.bind_eq_some_iff] at h
  obtain ⟨y, h1, h2⟩ := h
  have : x.2 = y.2 := by
    by_cases q : isName y.1.w = false
    · rw [if_pos q] at h2; cases h2
    · rw [if_neg q] at h2
      by_cases q2 : had.contains y.1.w = true
      · rw [if_pos q2] at h2; cases h2
      · rw [if_neg q2] at h2; cases h2; rfl
  rw [this, next_some h1]
theorem oneOf_some {α : Type} {e : Nat} {ks : List (α × String)} {l : List Word} {x : (α × Nat) × List Word} (h : (oneOf e ks l).toOption = some x) : l.length = x.2.length + 1 := by
  unfold oneOf at h
  rw [opt_bind, Option.bind_eq_some_iff] at h
  obtain ⟨y, h1, h2⟩ := h
  have : x.2 = y.2 := by
    revert h2
    show (match ks.find? fun (z : α × String) => ascii z.2 == y.1.w with | none => _ | some y => _ : Except Fault _).toOption = _ → _
    cases ks.find? fun (z : α × String) => ascii z.2 == y.1.w with
    | none => intro h2; cases h2
    | some n => intro h2; cases h2; rfl
  rw [this, next_some h1]
theorem closed_some {l : List Word} {x : Unit} (h : (closed l).toOption = some x) : l.length = 0 := by
  cases l with
  | nil => rfl
  | cons w r => cases h
theorem pool_len {e : Nat} {C : Card} {l : List Word} {p : Pool} (h : (poolIn e C l).toOption = some p) : l.length = 15 := by
  unfold poolIn at h
  simp only [opt_bind, Option.bind_eq_some_iff] at h
  obtain ⟨n, hn, kd, hkd, k, hk, f, hf, r, hr, _, _, _, _, t0, ht0, t, ht, b0, hb0, b, hb, m0, hm0, m, hm, u0, hu0, u, hu, _, _, z0, hz0, z, hz, _, hc, _⟩ := h
  have a1 := newName_some hn
  have a2 := oneOf_some hkd
  have a3 := number_some hk
  have a4 := must_some hf
  have a5 := number_some hr
  have a6 := must_some ht0
  have a7 := number_some ht
  have a8 := must_some hb0
  have a9 := number_some hb
  have a10 := must_some hm0
  have a11 := number_some hm
  have a12 := must_some hu0
  have a13 := number_some hu
  have a14 := must_some hz0
  have a15 := oneOf_some hz
  have a16 := closed_some hc
  omega
theorem mostK_lt (k : Kind) : mostK k < 100000 := by cases k <;> decide
theorem leastK_pos (k : Kind) : 1 ≤ leastK k := by cases k <;> decide
theorem lcons {α : Type} {l : List α} {n : Nat} (h : l.length = n + 1) : ∃ a r, l = a :: r ∧ r.length = n := by
  cases l with
  | nil => cases h
  | cons a r => exact ⟨a, r, rfl, Nat.succ.inj h⟩
theorem len15 {α : Type} {l : List α} (h : l.length = 15) : ∃ a1 a2 a3 a4 a5 a6 a7 a8 a9 b1 b2 b3 b4 b5 b6, l = [a1, a2, a3, a4, a5, a6, a7, a8, a9, b1, b2, b3, b4, b5, b6] := by
  obtain ⟨a1, l1, e1, h1⟩ := lcons h
  obtain ⟨a2, l2, e2, h2⟩ := lcons h1
  obtain ⟨a3, l3, e3, h3⟩ := lcons h2
  obtain ⟨a4, l4, e4, h4⟩ := lcons h3
  obtain ⟨a5, l5, e5, h5⟩ := lcons h4
  obtain ⟨a6, l6, e6, h6⟩ := lcons h5
  obtain ⟨a7, l7, e7, h7⟩ := lcons h6
  obtain ⟨a8, l8, e8, h8⟩ := lcons h7
  obtain ⟨a9, l9, e9, h9⟩ := lcons h8
  obtain ⟨b1, l10, e10, h10⟩ := lcons h9
  obtain ⟨b2, l11, e11, h11⟩ := lcons h10
  obtain ⟨b3, l12, e12, h12⟩ := lcons h11
  obtain ⟨b4, l13, e13, h13⟩ := lcons h12
  obtain ⟨b5, l14, e14, h14⟩ := lcons h13
  obtain ⟨b6, l15, e15, h15⟩ := lcons h14
  have e16 := List.eq_nil_of_length_eq_zero h15
  exact ⟨a1, a2, a3, a4, a5, a6, a7, a8, a9, b1, b2, b3, b4, b5, b6, by rw [e1, e2, e3, e4, e5, e6, e7, e8, e9, e10, e11, e12, e13, e14, e15, e16]⟩
theorem poolM_len {R : List (List Nat)} {l : List W} (h : l.length ≠ 16) : poolM R l = none := by
  rcases l with _ | ⟨_, _ | ⟨_, _ | ⟨_, _ | ⟨_, _ | ⟨_, _ | ⟨_, _ | ⟨_, _ | ⟨_, _ | ⟨_, _ | ⟨_, _ | ⟨_, _ | ⟨_, _ | ⟨_, _ | ⟨_, _ | ⟨_, _ | ⟨_, _ | ⟨_, _⟩⟩⟩⟩⟩⟩⟩⟩⟩⟩⟩⟩⟩⟩⟩⟩⟩
  all_goals first
    | rfl
    | exact absurd rfl h
inductive PInv (R : List (List Nat)) : List W → MPool → Prop
  | mk (pw n kd k f r t0 t b0 b m0 m u0 u z0 z : W) (lh : Nat × Nat) (size race : Nat) (fs : List (List Nat))
      (q : (pw = kw "pool" ∧ f = kw "from" ∧ t0 = kw "take" ∧ b0 = kw "break" ∧ m0 = kw "least" ∧ u0 = kw "unit" ∧ z0 = kw "none") ∧ okName n = true) (hs : sizesM kd = some lh) (hk : num lh.1 lh.2 k = some size) (hr : num 1 R.length r = some race)
      (ht : termsM t b m u = some ()) (hz : noneM z kd = some ()) (hf : fieldsM kd size race R = some fs) : PInv R [pw, n, kd, k, f, r, t0, t, b0, b, m0, m, u0, u, z0, z] ⟨n, kd, size, fs⟩
theorem poolM_inv {R : List (List Nat)} {ws : List W} {p : MPool} (h : poolM R ws = some p) : PInv R ws p := by
  by_cases hl : ws.length = 16
  rotate_left
  · rw [poolM_len hl] at h
    cases h
  obtain ⟨pw, l0, rfl, h0⟩ := lcons hl
  obtain ⟨n, kd, k, f, r, t0, t, b0, b, m0, m, u0, u, z0, z, rfl⟩ := len15 h0
  have h : (if (pw = kw "pool" ∧ f = kw "from" ∧ t0 = kw "take" ∧ b0 = kw "break" ∧ m0 = kw "least" ∧ u0 = kw "unit" ∧ z0 = kw "none") ∧ okName n = true then
      (sizesM kd).bind fun lh => (num lh.1 lh.2 k).bind fun size => (num 1 R.length r).bind fun race => (termsM t b m u).bind fun _ => (noneM z kd).bind fun _ =>
      (fieldsM kd size race R).map fun fs => (⟨n, kd, size, fs⟩ : MPool) else none) = some p := h
  split at h
  · next q =>
    simp only [Option.bind_eq_some_iff, Option.map_eq_some_iff] at h
    obtain ⟨lh, hs, size, hk, race, hr, _, ht, _, hz, fs, hf, rfl⟩ := h
    exact .mk pw n kd k f r t0 t b0 b m0 m u0 u z0 z lh size race fs q hs hk hr ht hz hf
  · cases h
theorem pool_eq (e : Nat) (C : Card) (l : List Word) (hr : C.races.length ≤ 16) :
    (poolIn e C l).toOption.map (mp C) = (poolM (C.races.map Race.heads) (kw "pool" :: l.map cw)).bind fun p => if p.name ∈ C.pools.map (fun q => codes q.name) ∨ plain p.name = false then none else some p := by
  by_cases hl : l.length = 15
  rotate_left
  · rw [poolM_len (by rw [List.length_cons, List.length_map]; omega)]
    cases h : (poolIn e C l).toOption with
    | none => rfl
    | some p => exact absurd (pool_len h) hl
  obtain ⟨n, kd, k, f, r, t0, t, b0, b, m0, m, u0, u, z0, z, rfl⟩ := len15 hl
  have mm : (C.pools.map fun p => p.name).map codes = C.pools.map fun q => codes q.name := by rw [List.map_map]; rfl
  have hone : ∀ (K : Kind) (w : Word) (r : List Word), (oneOf e (if K = Kind.place then NONES.take 2 else NONES) (w :: r)).toOption = (if K = .place then nones2M (cw w) else nonesM (cw w)).map fun k => ((k, w.at_), r) := fun K w r => by
    by_cases hK : K = .place
    · rw [if_pos hK, if_pos hK, oneOf_none2]
    · rw [if_neg hK, if_neg hK, oneOf_none]
  unfold poolIn
  simp only [opt_bind, newName_cons, ite_bind, oneOf_kind, map_bind, number_cons e (mostK_lt _), must_cons k_from, number_cons e (show C.races.length < 100000 by omega), holds_opt, must_cons k_take,
    number_cons e (show 400 < 100000 by decide), must_cons k_break, number_cons e (show 1000 < 100000 by decide), must_cons k_least, number_cons e (show 20000 < 100000 by decide), must_cons k_unit,
    number_cons e (show 10000 < 100000 by decide), must_cons k_none, hone, closed_nil, opt_pure, Option.bind_some, mm]
  show _ = (if (kw "pool" = kw "pool" ∧ cw f = kw "from" ∧ cw t0 = kw "take" ∧ cw b0 = kw "break" ∧ cw m0 = kw "least" ∧ cw u0 = kw "unit" ∧ cw z0 = kw "none") ∧ okName (cw n) = true then
      (sizesM (cw kd)).bind fun lh => (num lh.1 lh.2 (cw k)).bind fun size => (num 1 (C.races.map Race.heads).length (cw r)).bind fun race => (termsM (cw t) (cw b) (cw m) (cw u)).bind fun _ => (noneM (cw z) (cw kd)).bind fun _ =>
      (fieldsM (cw kd) size race (C.races.map Race.heads)).map fun fs => (⟨cw n, cw kd, size, fs⟩ : MPool)
    else none).bind _
  generalize hG : (fun p : MPool => if p.name ∈ C.pools.map (fun q => codes q.name) ∨ plain p.name = false then none else some p) = G
  by_cases h1 : cw f = kw "from"
  rotate_left
  · simp only [if_neg h1, h1, bind_none, Option.map_none, false_and, and_false, if_false, Option.bind_none, ite_self]
  by_cases h2 : cw t0 = kw "take"
  rotate_left
  · simp only [if_neg h2, h2, bind_none, Option.map_none, false_and, and_false, if_false, Option.bind_none, ite_self]
  by_cases h3 : cw b0 = kw "break"
  rotate_left
  · simp only [if_neg h3, h3, bind_none, Option.map_none, false_and, and_false, if_false, Option.bind_none, ite_self]
  by_cases h4 : cw m0 = kw "least"
  rotate_left
  · simp only [if_neg h4, h4, bind_none, Option.map_none, false_and, and_false, if_false, Option.bind_none, ite_self]
  by_cases h5 : cw u0 = kw "unit"
  rotate_left
  · simp only [if_neg h5, h5, bind_none, Option.map_none, false_and, and_false, if_false, Option.bind_none, ite_self]
  by_cases h6 : cw z0 = kw "none"
  rotate_left
  · simp only [if_neg h6, h6, bind_none, Option.map_none, false_and, and_false, if_false, Option.bind_none, ite_self]
  by_cases h7 : okName (cw n) = true
  rotate_left
  · rw [if_neg (fun q => h7 q.1.2), if_neg (fun q => h7 q.2)]; rfl
  rw [if_pos (show (kw "pool" = kw "pool" ∧ cw f = kw "from" ∧ cw t0 = kw "take" ∧ cw b0 = kw "break" ∧ cw m0 = kw "least" ∧ cw u0 = kw "unit" ∧ cw z0 = kw "none") ∧ okName (cw n) = true from ⟨⟨rfl, h1, h2, h3, h4, h5, h6⟩, h7⟩), List.length_map, terms_eq]
  simp only [if_pos h1, if_pos h2, if_pos h3, if_pos h4, if_pos h5, if_pos h6]
  cases ek : kindM (cw kd) with
  | none =>
    rw [kindM_none ek]
    simp only [Option.bind_none, ite_self, Option.map_none]
  | some K =>
    obtain ⟨hkd, hsz⟩ := kindM_some ek
    rw [hsz, hkd]
    simp only [Option.bind_some]
    cases e1 : num (leastK K) (mostK K) (cw k) with
    | none => simp only [Option.bind_none, ite_self, Option.map_none]
    | some size =>
      simp only [Option.bind_some]
      cases e2 : num 1 C.races.length (cw r) with
      | none => simp only [Option.bind_none, ite_self, Option.map_none]
      | some race =>
        simp only [Option.bind_some]
        have hrace := num_lt e2
        have hsize := num_lt e1
        have hl1 := leastK_pos K
        cases e3 : num 0 400 (cw t) with
        | none => simp only [Option.bind_none, ite_self, Option.map_none]
        | some tk =>
          cases e4 : num 1 1000 (cw b) with
          | none => simp only [Option.bind_some, Option.bind_none, ite_self, Option.map_none]
          | some bk =>
            cases e5 : num 0 20000 (cw m) with
            | none => simp only [Option.bind_some, Option.bind_none, ite_self, Option.map_none]
            | some le =>
              cases e6 : num 1 10000 (cw u) with
              | none => simp only [Option.bind_some, Option.bind_none, ite_self, Option.map_none]
              | some un =>
                simp only [Option.bind_some]
                by_cases h8 : (le == 0 || inside un (2 * un) le) = true
                rotate_left
                · simp only [if_neg h8, ite_self, Option.map_none, Option.bind_none]
                simp only [if_pos h8, Option.bind_some]
                have hz := none_eq (cw z) K
                cases ez : (if K = .place then nones2M (cw z) else nonesM (cw z)) with
                | none =>
                  rw [ez] at hz
                  rw [← hz]
                  simp only [Option.bind_none, ite_self, Option.map_none]
                | some zz =>
                  rw [ez] at hz
                  rw [← hz]
                  simp only [Option.bind_some]
                  have hf := fields_eq C ⟨n.w, K, size, race, zz, tk, bk, le, un⟩ hrace.1 hrace.2 (by show 1 ≤ size; omega)
                  simp only at hf
                  by_cases h9 : (K != .legs || decide (race + size ≤ C.races.length + 1)) = true
                  rotate_left
                  · rw [if_neg (fun q => h9 q.1)] at hf; rw [hf, if_neg h9]; simp only [ite_self, Option.map_none, Option.bind_none]
                  by_cases h10 : (K == .legs || ((C.races[race - 1]?).map fun (x : Race) => decide (size ≤ x.heads.length)).getD false) = true
                  rotate_left
                  · rw [if_neg (fun q => h10 q.2)] at hf; rw [hf, if_pos h9, if_neg h10]; simp only [ite_self, Option.map_none, Option.bind_none]
                  rw [if_pos ⟨h9, h10⟩] at hf
                  rw [hf, if_pos h9, if_pos h10]
                  subst hG
                  simp only [Option.map_some, Option.bind_some, h7, and_true]
                  by_cases h11 : plain (cw n) = true ∧ ¬ cw n ∈ C.pools.map (fun q => codes q.name)
                  · rw [if_pos h11, if_neg]
                    · rfl
                    · rintro (q | q)
                      · exact h11.2 q
                      · rw [h11.1] at q; cases q
                  · rw [if_neg h11, if_pos]
                    · rfl
                    · by_cases q : cw n ∈ C.pools.map (fun q => codes q.name)
                      · exact .inl q
                      · exact .inr (by cases w : plain (cw n) with | false => rfl | true => exact absurd ⟨w, q⟩ h11)
end Mir
set_option linter.all false
namespace Mir
open Tote
theorem codes_nil : codes [] = [] := rfl
theorem codes_cons (c : UInt8) (l : Bytes) : codes (c :: l) = c.toNat :: codes l := rfl
theorem codes_append (a b : Bytes) : codes (a ++ b) = codes a ++ codes b := List.map_append
theorem words_ok : ∀ (l w : Bytes) (gap : Bool) (p q : Nat), gap = w.isEmpty → badByte gap p l = none →
    (wordsFrom q w l).map cw = cut 32 (codes w) (codes l) ∧ (∀ x ∈ cut 32 (codes w) (codes l), x ≠ [])
  | [], w, gap, p, q, hg, h => by
    cases w with
    | nil => subst hg; cases h
    | cons c w => exact ⟨rfl, by simp [cut, codes]⟩
  | c :: r, w, gap, p, q, hg, h => by
    unfold badByte at h
    split at h
    · cases h
    rw [codes_cons]
    unfold cut wordsFrom
    by_cases c32 : c = 32
    · rw [if_pos c32] at h ⊢
      rw [if_pos (by rw [c32]; rfl)]
      split at h
      · cases h
      next hgap =>
      split at h
      · cases h
      have ih := words_ok r [] true (p + 1) (q + 1) rfl h
      refine ⟨?_, fun x hx => ?_⟩
      · rw [List.map_cons, ih.1]; rfl
      · rcases List.mem_cons.mp hx with rfl | hx
        · cases w with
          | nil => subst hg; exact absurd rfl hgap
          | cons => simp [codes]
        · exact ih.2 x hx
    · rw [if_neg c32] at h ⊢
      rw [if_neg (fun z => c32 (UInt8.toNat_inj.mp (z.trans rfl)))]
      have ih := words_ok r (w ++ [c]) false (p + 1) (q + 1) (by cases w <;> rfl) h
      rw [codes_append] at ih
      exact ih
theorem words_bad : ∀ (l w : Bytes) (gap : Bool) (p i : Nat), (10 : UInt8) ∉ l → gap = w.isEmpty → badByte gap p l = some i →
    (codes l).all isSign = false ∨ [] ∈ cut 32 (codes w) (codes l)
  | [], w, gap, p, i, _, hg, h => by
    unfold badByte at h
    split at h
    · next q =>
      subst hg
      cases w with
      | nil => exact .inr (by simp [cut, codes])
      | cons => cases q
    · cases h
  | c :: r, w, gap, p, i, h10, hg, h => by
    have hc : ¬ c = 10 := fun z => h10 (by rw [z]; exact List.mem_cons_self)
    have h10' : (10 : UInt8) ∉ r := fun z => h10 (List.mem_cons_of_mem _ z)
    unfold badByte at h
    split at h
    · next hb =>
      refine .inl ?_
      rw [codes_cons, List.all_cons]
      have : isSign c.toNat = false := by
        have h1 : c.toNat < 32 ∨ 126 < c.toNat := by
          rcases hb with hb | hb
          · exact .inl (UInt8.lt_iff_toNat_lt.mp hb)
          · exact .inr (UInt8.lt_iff_toNat_lt.mp hb)
        have h2 : c.toNat ≠ 10 := fun z => hc (UInt8.toNat_inj.mp (z.trans rfl))
        unfold isSign
        simp
        omega
      rw [this]; rfl
    rw [codes_cons]
    unfold cut
    by_cases c32 : c = 32
    · rw [if_pos c32] at h
      rw [if_pos (by rw [c32]; rfl)]
      split at h
      · next hgap =>
        cases w with
        | nil => exact .inr (by simp [codes])
        | cons => subst hg; cases hgap
      split at h
      · next hr =>
        cases r with
        | nil => exact .inr (by simp [codes, cut])
        | cons => cases hr
      rcases words_bad r [] true (p + 1) i h10' rfl h with z | z
      · exact .inl (by rw [List.all_cons, z, Bool.and_false])
      · exact .inr (List.mem_cons_of_mem _ z)
    · rw [if_neg c32] at h
      rw [if_neg (fun z => c32 (UInt8.toNat_inj.mp (z.trans rfl)))]
      have ih := words_bad r (w ++ [c]) false (p + 1) i h10' (by cases w <;> rfl) h
      rw [codes_append] at ih
      rcases ih with z | z
      · exact .inl (by rw [List.all_cons, z, Bool.and_false])
      · exact .inr z
theorem cut_ne (s : Nat) : ∀ (acc l : W), cut s acc l ≠ []
  | acc, [] => by simp [cut]
  | acc, c :: r => by
    unfold cut
    split
    · simp
    · exact cut_ne s _ r
theorem cut_mem {s : Nat} : ∀ {l acc : W}, s ∉ acc → ∀ x ∈ cut s acc l, ∀ c ∈ x, c ≠ s ∧ (c ∈ acc ∨ c ∈ l)
  | [], acc, hs, x, hx, c, hc => by
    have : x = acc := by simpa [cut] using hx
    subst this
    exact ⟨fun z => hs (z ▸ hc), .inl hc⟩
  | d :: r, acc, hs, x, hx, c, hc => by
    unfold cut at hx
    split at hx
    · rcases List.mem_cons.mp hx with rfl | hx
      · exact ⟨fun z => hs (z ▸ hc), .inl hc⟩
      · have := cut_mem (l := r) (acc := []) (by simp) x hx c hc
        refine ⟨this.1, .inr ?_⟩
        rcases this.2 with z | z
        · cases z
        · exact List.mem_cons_of_mem _ z
    · next hd =>
      have := cut_mem (l := r) (acc := acc ++ [d]) (by simp [hs]; exact fun z => hd z.symm) x hx c hc
      refine ⟨this.1, ?_⟩
      rcases this.2 with z | z
      · rcases List.mem_append.mp z with z | z
        · exact .inl z
        · exact .inr (by simp at z; simp [z])
      · exact .inr (List.mem_cons_of_mem _ z)
theorem cut_all {s : Nat} (f : Nat → Bool) (hf : f s = true) : ∀ (l acc : W), (cut s acc l).all (fun x => x.all f) = (acc.all f && l.all f)
  | [], acc => by simp [cut]
  | d :: r, acc => by
    unfold cut
    split
    · next hd =>
      rw [List.all_cons, cut_all f hf r [], List.all_cons, hd, hf]
      simp
    · rw [cut_all f hf r, List.all_append, List.all_cons, List.all_cons, List.all_nil, Bool.and_true, Bool.and_assoc]
theorem sign_plain {x : W} (h : x.all isSign = true) (h1 : ∀ c ∈ x, c ≠ 10) (h2 : ∀ c ∈ x, c ≠ 32) : plain x = true := by
  unfold plain
  refine List.all_eq_true.mpr fun c hc => ?_
  have e := List.all_eq_true.mp h c hc
  have e1 := h1 c hc
  have e2 := h2 c hc
  unfold isSign at e
  unfold small dig
  simp at e ⊢
  omega
theorem plain_sign {x : W} (h : plain x = true) : x.all isSign = true := by
  refine List.all_eq_true.mpr fun c hc => ?_
  have e := List.all_eq_true.mp h c hc
  unfold small dig at e
  unfold isSign
  simp at e ⊢
  omega
theorem good_signs {l : W} (h : ∀ x ∈ cut 32 [] l, Good x) : l.all isSign = true := by
  have := cut_all (s := 32) isSign (by decide) l []
  rw [List.all_nil, Bool.true_and] at this
  rw [← this]
  exact List.all_eq_true.mpr fun x hx => plain_sign (h x hx).1
theorem pool_good {R : List (List Nat)} {ws : List W} {p : MPool} (h : poolM R ws = some p) (hp : plain p.name = true) : ∀ w ∈ ws, Good w := by
  obtain ⟨pw, n, kd, k, f, r, t0, t, b0, b, m0, m, u0, u, z0, z, lh, size, race, fs, q, hs, hk, hr, ht, hz, hf⟩ := poolM_inv h
  obtain ⟨⟨q1, q2, q3, q4, q5, q6, q7⟩, q8⟩ := q
  have gk : Good kd := by
    unfold sizesM at hs
    split at hs
    · next e => rw [e]; exact ⟨by decide, by decide⟩
    split at hs
    · next e => rw [e]; exact ⟨by decide, by decide⟩
    split at hs
    · next e => rw [e]; exact ⟨by decide, by decide⟩
    split at hs
    · next e => rw [e]; exact ⟨by decide, by decide⟩
    cases hs
  have gz : Good z := by
    unfold noneM at hz
    split at hz
    · next e => rcases e with e | e | e <;> (rw [e]; exact ⟨by decide, by decide⟩)
    · cases hz
  unfold termsM at ht
  simp only [Option.bind_eq_some_iff] at ht
  obtain ⟨_, ht, _, hb, _, hu, _, hm, _⟩ := ht
  have g7 : ∀ s : W, s ∈ [kw "pool", kw "from", kw "take", kw "break", kw "least", kw "unit", kw "none"] → Good s := by
    intro s hs
    simp only [List.mem_cons, List.not_mem_nil, or_false] at hs
    rcases hs with rfl | rfl | rfl | rfl | rfl | rfl | rfl <;> exact ⟨by decide, by decide⟩
  subst q1 q2 q3 q4 q5 q6 q7
  intro w hw
  simp only [List.mem_cons, List.not_mem_nil, or_false] at hw
  rcases hw with rfl | rfl | rfl | rfl | rfl | rfl | rfl | rfl | rfl | rfl | rfl | rfl | rfl | rfl | rfl | rfl
  · exact g7 _ (by simp)
  · exact ⟨hp, okName_ne q8⟩
  · exact gk
  · exact num_good hk
  · exact g7 _ (by simp)
  · exact num_good hr
  · exact g7 _ (by simp)
  · exact num_good ht
  · exact g7 _ (by simp)
  · exact num_good hb
  · exact g7 _ (by simp)
  · exact num_good hm
  · exact g7 _ (by simp)
  · exact num_good hu
  · exact g7 _ (by simp)
  · exact gz
theorem pool_first {R : List (List Nat)} {w : W} {ws : List W} (h : w ≠ kw "pool") : poolM R (w :: ws) = none := by
  cases e : poolM R (w :: ws) with
  | none => rfl
  | some p =>
    exfalso
    obtain ⟨pw, n, kd, k, f, r, t0, t, b0, b, m0, m, u0, u, z0, z, lh, size, race, fs, q, hs, hk, hr, ht, hz, hf⟩ := poolM_inv e
    exact h q.1.1
theorem pool_norace {ws : List W} : poolM [] ws = none := by
  cases e : poolM [] ws with
  | none => rfl
  | some p =>
    exfalso
    obtain ⟨pw, n, kd, k, f, r, t0, t, b0, b, m0, m, u0, u, z0, z, lh, size, race, fs, q, hs, hk, hr, ht, hz, hf⟩ := poolM_inv e
    have := num_lt hr
    simp at this
    omega
theorem pool_name {R : List (List Nat)} {ws : List W} {p : MPool} (h : poolM R ws = some p) : p.name ∈ ws := by
  obtain ⟨pw, n, kd, k, f, r, t0, t, b0, b, m0, m, u0, u, z0, z, lh, size, race, fs, q, hs, hk, hr, ht, hz, hf⟩ := poolM_inv h
  simp
def strict (s : St) (l : W) : Option St :=
  if l.all isSign = false then none
  else if (cut 32 [] l).head? = some (kw "race") ∧ s.2 = [] then (if 16 ≤ s.1.length then none else (raceM (cut 32 [] l)).map fun h => (s.1 ++ [h], s.2))
  else if 64 ≤ s.2.length then none else (poolM s.1 (cut 32 [] l)).bind fun p => if p.name ∈ s.2.map (·.name) then none else some (s.1, s.2 ++ [p])
def absC (C : Card) : St := (C.races.map Race.heads, C.pools.map (mp C))
theorem strict_good {s t : St} {l : W} (h : strict s l = some t) (h10 : 10 ∉ l) : ∀ x ∈ cut 32 [] l, Good x := by
  unfold strict at h
  split at h
  · cases h
  next hs =>
  have hs : l.all isSign = true := by simpa using hs
  split at h
  · next q =>
    split at h
    · cases h
    · simp only [Option.map_eq_some_iff] at h
      obtain ⟨a, ha, _⟩ := h
      cases e : cut 32 [] l with
      | nil => exact absurd e (cut_ne _ _ _)
      | cons w ws =>
        rw [e] at q ha
        have q1 : w = kw "race" := by simpa using q.1
        intro x hx
        rcases List.mem_cons.mp hx with rfl | hx
        · rw [q1]; exact ⟨by decide, by decide⟩
        · exact race_good ha x hx
  · split at h
    · cases h
    · simp only [Option.bind_eq_some_iff] at h
      obtain ⟨p, hp, _⟩ := h
      refine pool_good hp ?_
      have hm := pool_name hp
      have := fun c hc => cut_mem (s := 32) (l := l) (acc := []) (by simp) p.name hm c hc
      refine sign_plain (List.all_eq_true.mpr fun c hc => ?_) (fun c hc z => ?_) fun c hc => (this c hc).1
      · rcases (this c hc).2 with z | z
        · cases z
        · exact List.all_eq_true.mp hs c z
      · subst z
        rcases (this _ hc).2 with z | z
        · cases z
        · exact h10 z
theorem strict_empty {s : St} {l : W} (h10 : 10 ∉ l) (h : [] ∈ cut 32 [] l) : strict s l = none := by
  cases e : strict s l with
  | none => rfl
  | some t => exact absurd rfl (strict_good e h10 [] h).2
theorem ten_codes {l : Bytes} (h : (10 : UInt8) ∉ l) : 10 ∉ codes l := by
  intro z
  obtain ⟨c, hc, e⟩ := List.mem_map.mp z
  have : c = 10 := UInt8.toNat_inj.mp (e.trans rfl)
  exact h (this ▸ hc)
theorem step_bad {l : Bytes} {i : Nat} (h10 : (10 : UInt8) ∉ l) (h : badByte true 0 l = some i) (s : St) : strict s (codes l) = none := by
  rcases words_bad l [] true 0 i h10 rfl h with z | z
  · unfold strict; rw [if_pos z]
  · exact strict_empty (ten_codes h10) z
theorem step_some {l : Bytes} (h10 : (10 : UInt8) ∉ l) (hb : badByte true 0 l = none) (p e : Nat) (C : Card) (hC : C.races.length ≤ 16) :
    (lineIn (some C) ⟨wordsFrom p [] l, e⟩).toOption.map (Option.map absC) = (strict (absC C) (codes l)).map some ∧
    ∀ C', (lineIn (some C) ⟨wordsFrom p [] l, e⟩).toOption = some C' → ∃ D, C' = some D ∧ D.races.length ≤ 16 := by
  obtain ⟨hw, hne⟩ := words_ok l [] true 0 p rfl hb
  rw [codes_nil] at hw hne
  cases ew : wordsFrom p [] l with
  | nil => rw [ew] at hw; exact absurd hw.symm (cut_ne _ _ _)
  | cons w ws =>
    rw [ew] at hw
    have hl : (lineIn (some C) ⟨w :: ws, e⟩) = if w.w = ascii "race" ∧ C.pools = [] then (if RACES ≤ C.races.length then .error ⟨6, w.at_⟩ else withRace e C ws)
      else if w.w = ascii "pool" ∧ C.races ≠ [] then (if POOLS ≤ C.pools.length then .error ⟨6, w.at_⟩ else withPool e C ws) else .error ⟨3, w.at_⟩ := rfl
    rw [hl]
    have plainOf : ∀ x ∈ cut 32 [] (codes l), (codes l).all isSign = true → plain x = true := fun x hx hs => by
      have := fun c hc => cut_mem (s := 32) (l := codes l) (acc := []) (by simp) x hx c hc
      refine sign_plain (List.all_eq_true.mpr fun c hc => ?_) (fun c hc z => ?_) fun c hc => (this c hc).1
      · rcases (this c hc).2 with z | z
        · cases z
        · exact List.all_eq_true.mp hs c z
      · subst z
        rcases (this _ hc).2 with z | z
        · cases z
        · exact ten_codes h10 z
    have a1 : (absC C).1.length = C.races.length := List.length_map _
    have a2 : (absC C).2 = [] ↔ C.pools = [] := by unfold absC; simp
    have a3 : (absC C).2.length = C.pools.length := List.length_map _
    unfold strict
    rw [← hw, a1, a3]
    simp only [List.map_cons, List.head?_cons, Option.some.injEq, a2, codes_ascii k_race, codes_ascii k_pool]
    by_cases c1 : cw w = kw "race" ∧ C.pools = []
    · rw [if_pos c1, if_pos c1]
      by_cases c2 : 16 ≤ C.races.length
      · rw [if_pos (show RACES ≤ C.races.length from c2), if_pos c2]
        exact ⟨by simp [opt_error], fun C' h => by cases h⟩
      · rw [if_neg (show ¬ RACES ≤ C.races.length from c2), if_neg c2]
        unfold withRace
        rw [opt_map, ← race_eq e (cw w) ws]
        have key : (raceIn e ws).toOption.isSome = true → (codes l).all isSign = true := fun z => by
          refine good_signs fun x hx => ?_
          obtain ⟨r, hr⟩ := Option.isSome_iff_exists.mp z
          have hm : raceM (cw w :: ws.map cw) = some r.heads := by rw [← race_eq e (cw w) ws, hr]; rfl
          rw [← hw] at hx
          rcases List.mem_cons.mp hx with rfl | hx
          · rw [c1.1]; exact ⟨by decide, by decide⟩
          · exact race_good hm x hx
        cases er : (raceIn e ws).toOption with
        | none => exact ⟨by simp, fun C' h => by cases h⟩
        | some r =>
          rw [er] at key
          rw [if_neg (by rw [key rfl]; decide)]
          refine ⟨?_, fun C' h => ?_⟩
          · simp only [Option.map_some]
            congr 2
            unfold absC
            rw [c1.2]
            simp
          · cases h
            exact ⟨_, rfl, by show (C.races ++ [r]).length ≤ 16; rw [List.length_append, List.length_singleton]; omega⟩
    · rw [if_neg c1, if_neg c1]
      by_cases c3 : cw w = kw "pool" ∧ C.races ≠ []
      · rw [if_pos c3]
        by_cases c2 : 64 ≤ C.pools.length
        · rw [if_pos (show POOLS ≤ C.pools.length from c2), if_pos c2]
          exact ⟨by simp [opt_error], fun C' h => by cases h⟩
        · rw [if_neg (show ¬ POOLS ≤ C.pools.length from c2), if_neg c2]
          unfold withPool
          rw [opt_map]
          have pe := pool_eq e C ws hC
          rw [← c3.1] at pe
          have nm : (absC C).2.map (·.name) = C.pools.map fun q => codes q.name := by unfold absC; rw [List.map_map]; rfl
          rw [nm]
          by_cases hs : (codes l).all isSign = true
          · rw [if_neg (by rw [hs]; decide)]
            have pe2 : (poolIn e C ws).toOption.map (mp C) = (poolM (C.races.map Race.heads) (cw w :: ws.map cw)).bind fun p => if p.name ∈ C.pools.map (fun q => codes q.name) then none else some p := by
              rw [pe]
              cases ep : poolM (C.races.map Race.heads) (cw w :: ws.map cw) with
              | none => rfl
              | some q =>
                have : plain q.name = true := plainOf _ (by rw [← hw]; exact pool_name ep) hs
                simp only [Option.bind_some, this]
                simp
            refine ⟨?_, fun C' h => ?_⟩
            · have e1 : (absC C).1 = C.races.map Race.heads := rfl
              rw [e1]
              have e2 : ((poolM (C.races.map Race.heads) (cw w :: ws.map cw)).bind fun p => if p.name ∈ C.pools.map (fun q => codes q.name) then none else some (C.races.map Race.heads, (absC C).2 ++ [p])) =
                  ((poolM (C.races.map Race.heads) (cw w :: ws.map cw)).bind fun p => if p.name ∈ C.pools.map (fun q => codes q.name) then none else some p).map fun p => (C.races.map Race.heads, (absC C).2 ++ [p]) := by
                cases poolM (C.races.map Race.heads) (cw w :: ws.map cw) with
                | none => rfl
                | some q =>
                  simp only [Option.bind_some]
                  split <;> rfl
              rw [e2, ← pe2]
              cases (poolIn e C ws).toOption with
              | none => rfl
              | some q =>
                simp only [Option.map_some]
                congr 2
                unfold absC
                simp
                exact ⟨fun a _ => rfl, rfl⟩
            · cases eq : (poolIn e C ws).toOption with
              | none => rw [eq] at h; cases h
              | some q =>
                rw [eq] at h
                cases h
                exact ⟨_, rfl, hC⟩
          · rw [if_pos (by simpa using hs)]
            have : (poolIn e C ws).toOption = none := by
              cases eq : (poolIn e C ws).toOption with
              | none => rfl
              | some q =>
                rw [eq] at pe
                exfalso
                cases ep : poolM (C.races.map Race.heads) (cw w :: ws.map cw) with
                | none => rw [ep] at pe; cases pe
                | some r =>
                  rw [ep] at pe
                  simp only [Option.bind_some] at pe
                  split at pe
                  · cases pe
                  · next hn =>
                    have hpl : plain r.name = true := by
                      cases z : plain r.name with
                      | true => rfl
                      | false => exact absurd (.inr z) hn
                    exact hs (good_signs fun x hx => pool_good ep hpl x (by rw [← hw] at hx; exact hx))
            rw [this]
            exact ⟨rfl, fun C' h => by cases h⟩
      · rw [if_neg c3]
        refine ⟨?_, fun C' h => by cases h⟩
        have : poolM (absC C).1 (cw w :: ws.map cw) = none := by
          by_cases q : cw w = kw "pool"
          · have : C.races = [] := Classical.byContradiction fun z => c3 ⟨q, z⟩
            have e1 : (absC C).1 = [] := by unfold absC; rw [this]; rfl
            rw [e1]
            exact pool_norace
          · exact pool_first q
        rw [this]
        simp [opt_error]
end Mir
set_option linter.all false
namespace Mir
open Tote
def strictRun : St → List W → Option St
  | _, [] => none
  | s, [x] => if x = [] then some s else none
  | s, l :: m :: r => (strict s l).bind fun t => strictRun t (m :: r)
theorem strictRun_cons {s : St} {l : W} {r : List W} (h : r ≠ []) : strictRun s (l :: r) = (strict s l).bind fun t => strictRun t r := by
  cases r with
  | nil => exact absurd rfl h
  | cons m r => rfl
theorem cut_cons (s : Nat) (acc : W) (c : Nat) (r : W) : cut s acc (c :: r) = if c = s then acc :: cut s [] r else cut s (acc ++ [c]) r := rfl
theorem lines_nil {k p : Nat} {s : Option Card} : linesIn lineIn (k + 1) p s [] = .ok s := by rw [linesIn]; rfl
theorem lines_none {k p : Nat} {s : Option Card} {b : Bytes} (hb : b.isEmpty = false) (hu : upTo b = none) : linesIn lineIn (k + 1) p s b = .error ⟨1, p + b.length⟩ := by
  rw [linesIn, if_neg (by rw [hb]; decide), hu]
theorem lines_bad {k p : Nat} {s : Option Card} {b l r : Bytes} {i : Nat} (hb : b.isEmpty = false) (hu : upTo b = some (l, r)) (hx : badByte true 0 l = some i) : linesIn lineIn (k + 1) p s b = .error ⟨2, p + i⟩ := by
  rw [linesIn, if_neg (by rw [hb]; decide), hu]
  simp only [hx]
theorem lines_err {k p : Nat} {s : Option Card} {b l r : Bytes} {f : Fault} (hb : b.isEmpty = false) (hu : upTo b = some (l, r)) (hx : badByte true 0 l = none)
    (hl : lineIn s ⟨wordsFrom p [] l, p + l.length⟩ = .error f) : linesIn lineIn (k + 1) p s b = .error f := by
  rw [linesIn, if_neg (by rw [hb]; decide), hu]
  simp only [hx, hl]
theorem lines_ok {k p : Nat} {s t : Option Card} {b l r : Bytes} (hb : b.isEmpty = false) (hu : upTo b = some (l, r)) (hx : badByte true 0 l = none)
    (hl : lineIn s ⟨wordsFrom p [] l, p + l.length⟩ = .ok t) : linesIn lineIn (k + 1) p s b = linesIn lineIn k (p + l.length + 1) t r := by
  rw [linesIn, if_neg (by rw [hb]; decide), hu]
  simp only [hx, hl]
theorem upTo_none : ∀ {b : Bytes}, upTo b = none → ∀ acc : W, cut 10 acc (codes b) = [acc ++ codes b]
  | [], _, acc => by simp [cut, codes]
  | c :: r, h, acc => by
    unfold upTo at h
    split at h
    · cases h
    · next hc =>
      have h1 : upTo r = none := by
        cases e : upTo r with
        | none => rfl
        | some x => rw [e] at h; cases h
      rw [codes_cons, cut_cons, if_neg (fun z => hc (UInt8.toNat_inj.mp (z.trans rfl))), upTo_none h1, List.append_assoc]
      rfl
theorem upTo_some : ∀ {b l r : Bytes}, upTo b = some (l, r) → (∀ acc : W, cut 10 acc (codes b) = (acc ++ codes l) :: cut 10 [] (codes r)) ∧ (10 : UInt8) ∉ l ∧ r.length < b.length
  | [], l, r, h => by cases h
  | c :: b, l, r, h => by
    unfold upTo at h
    split at h
    · next hc =>
      cases h
      refine ⟨fun acc => ?_, by simp, by simp⟩
      rw [codes_cons, cut_cons, if_pos (by rw [hc]; rfl)]
      simp [codes]
    · next hc =>
      cases e : upTo b with
      | none => rw [e] at h; cases h
      | some x =>
        rw [e] at h
        obtain ⟨x1, x2⟩ := x
        cases h
        have ih := upTo_some e
        refine ⟨fun acc => ?_, ?_, Nat.lt_succ_of_lt ih.2.2⟩
        · rw [codes_cons, cut_cons, if_neg (fun z => hc (UInt8.toNat_inj.mp (z.trans rfl))), ih.1, List.append_assoc]
          rfl
        · intro z
          rcases List.mem_cons.mp z with z | z
          · exact hc z.symm
          · exact ih.2.1 z
theorem lines_some : ∀ (k p : Nat) (C : Card) (b : Bytes), b.length < k → C.races.length ≤ 16 →
    (linesIn lineIn k p (some C) b).toOption.map (Option.map absC) = (strictRun (absC C) (cut 10 [] (codes b))).map some
  | 0, p, C, b, h, _ => by omega
  | k + 1, p, C, b, h, hC => by
    cases b with
    | nil => rw [lines_nil]; rfl
    | cons c b' =>
      cases e : upTo (c :: b') with
      | none =>
        rw [upTo_none e [], lines_none rfl e]
        show none = _
        have : strictRun (absC C) [[] ++ codes (c :: b')] = none := by
          show (if [] ++ codes (c :: b') = [] then _ else _) = none
          rw [if_neg (by simp [codes])]
        rw [this]; rfl
      | some x =>
        obtain ⟨l, r⟩ := x
        obtain ⟨h1, h10, hr⟩ := upTo_some e
        rw [h1 [], List.nil_append, strictRun_cons (cut_ne _ _ _)]
        cases eb : badByte true 0 l with
        | some i =>
          rw [step_bad h10 eb, lines_bad rfl e eb]
          rfl
        | none =>
          obtain ⟨s1, s2⟩ := step_some h10 eb p (p + l.length) C hC
          cases el : lineIn (some C) ⟨wordsFrom p [] l, p + l.length⟩ with
          | error f =>
            rw [el] at s1
            rw [lines_err rfl e eb el]
            have s1 : none = (strict (absC C) (codes l)).map some := s1
            cases es : strict (absC C) (codes l) with
            | none => rfl
            | some t => rw [es] at s1; cases s1
          | ok C' =>
            rw [el] at s1 s2
            obtain ⟨D, rfl, hD⟩ := s2 C' rfl
            rw [lines_ok rfl e eb el]
            have s1 : some (some (absC D)) = (strict (absC C) (codes l)).map some := s1
            cases es : strict (absC C) (codes l) with
            | none => rw [es] at s1; cases s1
            | some t =>
              rw [es] at s1
              have : absC D = t := by simpa using s1
              subst this
              exact lines_some k (p + l.length + 1) D r (by omega) hD
def dayS (l : W) : Option Unit := if l.all isSign = true then dayM (cut 32 [] l) else none
theorem day_step {l : Bytes} (h10 : (10 : UInt8) ∉ l) (hb : badByte true 0 l = none) (p e : Nat) :
    (lineIn none ⟨wordsFrom p [] l, e⟩).toOption.map (Option.map absC) = (dayS (codes l)).map fun _ => some ([], []) := by
  obtain ⟨hw, hne⟩ := words_ok l [] true 0 p rfl hb
  rw [codes_nil] at hw hne
  have plainOf : ∀ x ∈ cut 32 [] (codes l), (codes l).all isSign = true → plain x = true := fun x hx hs => by
    have := fun c hc => cut_mem (s := 32) (l := codes l) (acc := []) (by simp) x hx c hc
    refine sign_plain (List.all_eq_true.mpr fun c hc => ?_) (fun c hc z => ?_) fun c hc => (this c hc).1
    · rcases (this c hc).2 with z | z
      · cases z
      · exact List.all_eq_true.mp hs c z
    · subst z
      rcases (this _ hc).2 with z | z
      · cases z
      · exact ten_codes h10 z
  cases ew : wordsFrom p [] l with
  | nil => rw [ew] at hw; exact absurd hw.symm (cut_ne _ _ _)
  | cons w ws =>
    rw [ew] at hw
    have hl : lineIn none ⟨w :: ws, e⟩ = if w.w = ascii "day" then dayIn e ws else .error ⟨3, w.at_⟩ := rfl
    rw [hl]
    unfold dayS
    by_cases c1 : cw w = kw "day"
    rotate_left
    · rw [if_neg (fun z => c1 ((codes_ascii k_day _).mp z))]
      have : dayM (cut 32 [] (codes l)) = none := by
        rw [← hw]
        unfold dayM
        split
        · next e1 =>
          split
          · next q =>
            simp only [List.map_cons, List.cons.injEq] at e1
            exact absurd (e1.1.trans q.1) c1
          · rfl
        · rfl
      rw [this]
      simp [opt_error]
    rw [if_pos ((codes_ascii k_day _).mpr c1)]
    unfold dayIn
    simp only [opt_bind]
    match ws, hw with
    | [], hw =>
      rw [← hw, newName_nil]
      simp [dayM]
    | [n], hw =>
      simp only [newName_cons, List.map_nil, List.not_mem_nil, not_false_iff, and_true, ite_bind, closed_nil, Option.bind_some, opt_pure]
      rw [← hw]
      simp only [List.map_cons, List.map_nil, dayM, c1, true_and]
      by_cases q : plain (cw n) = true ∧ okName (cw n) = true
      · rw [if_pos q, if_pos, if_pos q.2]
        · rfl
        · refine good_signs fun x hx => ?_
          rw [← hw] at hx
          simp only [List.map_cons, List.map_nil, List.mem_cons, List.not_mem_nil, or_false] at hx
          rcases hx with rfl | rfl
          · rw [c1]; exact ⟨by decide, by decide⟩
          · exact ⟨q.1, okName_ne q.2⟩
      · rw [if_neg q]
        by_cases hs : (codes l).all isSign = true
        · have := plainOf (cw n) (by rw [← hw]; simp) hs
          rw [if_pos hs, if_neg (fun z => q ⟨this, z⟩)]
          rfl
        · rw [if_neg hs]; rfl
    | n :: m :: r, hw =>
      simp only [newName_cons, ite_bind, closed_cons, Option.bind_none, ite_self, Option.map_none]
      rw [← hw]
      simp [dayM]
def okS (s : St) : Prop := s.1.length ≤ 16 ∧ s.2.length ≤ 64 ∧ (s.2.map (·.name)).Nodup
instance (s : St) : Decidable (okS s) := by unfold okS; infer_instance
theorem strict_lax {s : St} {l : W} (hs : okS s) : strict s l = if l.all isSign = true then (lax s l).bind fun t => if okS t then some t else none else none := by
  unfold strict lax
  by_cases h : l.all isSign = true
  rotate_left
  · rw [if_pos (by simpa using h), if_neg h]
  rw [if_neg (by rw [h]; decide), if_pos h]
  by_cases c1 : (cut 32 [] l).head? = some (kw "race") ∧ s.2 = []
  · rw [if_pos c1, if_pos c1]
    cases raceM (cut 32 [] l) with
    | none => simp
    | some a =>
      simp only [Option.map_some, Option.bind_some]
      by_cases c2 : 16 ≤ s.1.length
      · rw [if_pos c2, if_neg]
        intro z
        have := z.1
        simp at this
        omega
      · rw [if_neg c2, if_pos]
        exact ⟨by simp; omega, hs.2⟩
  · rw [if_neg c1, if_neg c1]
    cases poolM s.1 (cut 32 [] l) with
    | none => simp
    | some p =>
      simp only [Option.map_some, Option.bind_some]
      by_cases c2 : 64 ≤ s.2.length
      · rw [if_pos c2, if_neg]
        intro z
        have := z.2.1
        simp at this
        omega
      · rw [if_neg c2]
        have nd : ((s.2 ++ [p]).map (·.name)).Nodup ↔ ¬ p.name ∈ s.2.map (·.name) := by
          rw [List.map_append, List.nodup_append]
          constructor
          · rintro ⟨_, _, h3⟩ z
            exact h3 _ z p.name (by simp) rfl
          · intro z
            refine ⟨hs.2.2, by simp, fun a ha b hb e => ?_⟩
            simp at hb
            subst e
            rw [hb] at ha
            exact z ha
        by_cases c3 : p.name ∈ s.2.map (·.name)
        · rw [if_pos c3, if_neg (fun z => nd.mp z.2.2 c3)]
        · rw [if_neg c3, if_pos]
          exact ⟨hs.1, by simp; omega, nd.mpr c3⟩
theorem lax_grow {s t : St} {l : W} (h : lax s l = some t) (hs : ¬ okS s) : ¬ okS t := by
  unfold lax at h
  split at h
  · simp only [Option.map_eq_some_iff] at h
    obtain ⟨a, _, rfl⟩ := h
    intro z
    refine hs ⟨?_, z.2⟩
    have := z.1
    simp at this
    omega
  · simp only [Option.map_eq_some_iff] at h
    obtain ⟨a, _, rfl⟩ := h
    intro z
    refine hs ⟨z.1, ?_, ?_⟩
    · have := z.2.1
      simp at this
      omega
    · have := z.2.2
      rw [List.map_append] at this
      exact (List.nodup_append.mp this).1
theorem laxAll_grow : ∀ {ls : List W} {s t : St}, laxAll s ls = some t → ¬ okS s → ¬ okS t
  | [], s, t, h, hs => by cases h; exact hs
  | l :: r, s, t, h, hs => by
    unfold laxAll at h
    rw [Option.bind_eq_some_iff] at h
    obtain ⟨u, h1, h2⟩ := h
    exact laxAll_grow h2 (lax_grow h1 hs)
theorem strictRun_lax : ∀ {ps : List W} {s : St}, ps ≠ [] → okS s → strictRun s ps = if ps.getLast? = some [] ∧ ps.dropLast.all (fun x => x.all isSign) = true then (laxAll s ps.dropLast).bind fun t => if okS t then some t else none else none
  | [], s, h, _ => absurd rfl h
  | [x], s, _, hs => by
    show (if x = [] then some s else none) = _
    by_cases q : x = []
    · rw [if_pos q, if_pos (by simp [q])]
      show _ = (if okS s then some s else none)
      rw [if_pos hs]
    · rw [if_neg q, if_neg (by simp [q])]
  | l :: m :: r, s, _, hs => by
    show (strict s l).bind (fun t => strictRun t (m :: r)) = _
    rw [strict_lax hs]
    have e1 : (l :: m :: r).getLast? = (m :: r).getLast? := by simp [List.getLast?_cons_cons]
    have e2 : (l :: m :: r).dropLast = l :: (m :: r).dropLast := rfl
    rw [e1, e2, List.all_cons]
    by_cases hl : l.all isSign = true
    rotate_left
    · rw [if_neg hl, if_neg]
      · rfl
      · rintro ⟨_, z⟩
        rw [Bool.and_eq_true] at z
        exact hl z.1
    rw [if_pos hl, hl, Bool.true_and]
    show _ = if _ then (((lax s l).bind fun t => laxAll t (m :: r).dropLast).bind fun t => if okS t then some t else none) else none
    cases ex : lax s l with
    | none => simp
    | some t =>
      simp only [Option.bind_some]
      by_cases ht : okS t
      · rw [if_pos ht]
        exact strictRun_lax (by simp) ht
      · rw [if_neg ht]
        split
        · cases eu : laxAll t (m :: r).dropLast with
          | none => rfl
          | some u =>
            simp only [Option.bind_some]
            rw [if_neg (laxAll_grow eu ht)]
            rfl
        · rfl
theorem okEnd_iff (s : St) : okEnd s = true ↔ 1 ≤ s.1.length ∧ okS s := by
  unfold okEnd okS
  simp only [Bool.and_eq_true, decide_eq_true_iff]
theorem all_last {f : W → Bool} : ∀ {l : List W}, l.getLast? = some [] → f [] = true → l.all f = l.dropLast.all f
  | [], h, _ => by cases h
  | [x], h, hf => by
    have : x = [] := by simpa using h
    subst this
    simp [hf]
  | x :: y :: r, h, hf => by
    have : (y :: r).getLast? = some [] := by simpa [List.getLast?_cons_cons] using h
    rw [List.all_cons, all_last this hf]
    rfl
theorem card_eq (b : Bytes) : ((readCard b).toOption.map fun C => C.pools.map (mp C)) = cardM (codes b) := by
  unfold readCard cardM linesM
  have hall : (codes b).all isSign = (cut 10 [] (codes b)).all fun x => x.all isSign := by
    rw [cut_all isSign (by decide)]; simp
  cases b with
  | nil =>
    rw [lines_nil]
    simp [codes, cut, Except.toOption]
  | cons c b' =>
    cases e : upTo (c :: b') with
    | none =>
      rw [lines_none rfl e, upTo_none e []]
      simp only [List.nil_append, List.length_singleton]
      simp [Except.toOption]
    | some x =>
      obtain ⟨l, r⟩ := x
      obtain ⟨h1, h10, hr⟩ := upTo_some e
      rw [hall, h1 [], List.nil_append]
      have hne : cut 10 [] (codes r) ≠ [] := cut_ne _ _ _
      obtain ⟨m, q, hq⟩ : ∃ m q, cut 10 [] (codes r) = m :: q := by
        cases z : cut 10 [] (codes r) with
        | nil => exact absurd z hne
        | cons m q => exact ⟨m, q, rfl⟩
      have e1 : (codes l :: cut 10 [] (codes r)).getLast? = (cut 10 [] (codes r)).getLast? := by rw [hq]; simp [List.getLast?_cons_cons]
      have e2 : (codes l :: cut 10 [] (codes r)).dropLast = codes l :: (cut 10 [] (codes r)).dropLast := by rw [hq]; rfl
      have e3 : 2 ≤ (codes l :: cut 10 [] (codes r)).length := by rw [hq]; simp
      rw [e1, e2, List.all_cons]
      -- the mirror, its tests in another order
      have hm : ((if ((codes l).all isSign && (cut 10 [] (codes r)).all fun x => x.all isSign) = true then
          (if (cut 10 [] (codes r)).getLast? = some [] ∧ 2 ≤ (codes l :: cut 10 [] (codes r)).length then some (codes l :: (cut 10 [] (codes r)).dropLast) else none) else none).bind fun ls => match ls with
          | [] => none
          | d :: r => (dayM (cut 32 [] d)).bind fun _ => (laxAll ([], []) r).bind fun s => if okEnd s = true then some s.2 else none) =
          (dayS (codes l)).bind fun _ => (strictRun ([], []) (cut 10 [] (codes r))).bind fun s => if 1 ≤ s.1.length then some s.2 else none := by
        have hok0 : okS (([], []) : St) := by unfold okS; simp
        rw [strictRun_lax hne hok0]
        unfold dayS
        by_cases hl : (codes l).all isSign = true
        rotate_left
        · rw [if_neg (by rw [Bool.and_eq_true]; exact fun z => hl z.1), if_neg hl]; rfl
        rw [if_pos hl, hl, Bool.true_and]
        by_cases hlast : (cut 10 [] (codes r)).getLast? = some []
        rotate_left
        · have : (if ((cut 10 [] (codes r)).all fun x => x.all isSign) = true then
            (if (cut 10 [] (codes r)).getLast? = some [] ∧ 2 ≤ (codes l :: cut 10 [] (codes r)).length then some (codes l :: (cut 10 [] (codes r)).dropLast) else none) else none) = none := by
            simp [hlast]
          rw [this, if_neg (fun z => hlast z.1)]
          simp
        have el := all_last (f := fun x => x.all isSign) hlast rfl
        rw [el]
        by_cases hs : ((cut 10 [] (codes r)).dropLast.all fun x => x.all isSign) = true
        rotate_left
        · rw [if_neg hs, if_neg (fun z => hs z.2)]
          simp
        rw [if_pos hs, if_pos ⟨hlast, e3⟩, if_pos ⟨hlast, hs⟩]
        show ((dayM (cut 32 [] (codes l))).bind fun _ => (laxAll ([], []) (cut 10 [] (codes r)).dropLast).bind fun s => if okEnd s = true then some s.2 else none) = _
        congr 1
        funext _
        cases laxAll ([], []) (cut 10 [] (codes r)).dropLast with
        | none => rfl
        | some t =>
          simp only [Option.bind_some]
          by_cases c1 : okS t
          · by_cases c2 : 1 ≤ t.1.length
            · rw [if_pos ((okEnd_iff t).mpr ⟨c2, c1⟩), if_pos c1]
              simp [c2]
            · rw [if_neg (fun z => c2 ((okEnd_iff t).mp z).1), if_pos c1]
              simp [c2]
          · rw [if_neg (fun z => c1 ((okEnd_iff t).mp z).2), if_neg c1]
            rfl
      refine Eq.trans ?_ hm.symm
      cases eb : badByte true 0 l with
      | some i =>
        have : dayS (codes l) = none := by
          unfold dayS
          rcases words_bad l [] true 0 i h10 rfl eb with z | z
          · rw [if_neg (by rw [z]; decide)]
          · split
            · next hs =>
              cases ed : dayM (cut 32 [] (codes l)) with
              | none => rfl
              | some u =>
                exfalso
                have : dayM (cut 32 [] (codes l)) = some () := ed
                unfold dayM at this
                split at this
                · next e1 =>
                  split at this
                  · next q1 =>
                    rw [show codes [] = ([] : W) from rfl, e1] at z
                    simp only [List.mem_cons, List.not_mem_nil, or_false] at z
                    rcases z with z | z
                    · rw [q1.1] at z; exact absurd z (by decide)
                    · exact okName_ne q1.2 z.symm
                  · cases this
                · cases this
            · rfl
        rw [this, lines_bad rfl e eb]
        rfl
      | none =>
        have ds := day_step h10 eb 0 (0 + l.length)
        cases el : lineIn none ⟨wordsFrom 0 [] l, 0 + l.length⟩ with
        | error f =>
          rw [el] at ds
          rw [lines_err rfl e eb el]
          have ds : none = (dayS (codes l)).map fun _ => some (([], []) : St) := ds
          cases ed : dayS (codes l) with
          | none => rfl
          | some u => rw [ed] at ds; cases ds
        | ok D' =>
          rw [el] at ds
          rw [lines_ok rfl e eb el]
          have ds : some (D'.map absC) = (dayS (codes l)).map fun _ => some (([], []) : St) := ds
          cases ed : dayS (codes l) with
          | none => rw [ed] at ds; cases ds
          | some u =>
            rw [ed] at ds
            have ds : some (D'.map absC) = some (some (([], []) : St)) := ds
            have ds2 : D'.map absC = some (([], []) : St) := Option.some.inj ds
            cases D' with
            | none => cases ds2
            | some D =>
              have hD : absC D = ([], []) := by simpa using ds2
              have hDr : D.races.length ≤ 16 := by
                have := congrArg (fun z => z.1.length) hD
                simp [absC] at this
                simp [this]
              have key := lines_some (c :: b').length (0 + l.length + 1) D r (by simpa using hr) hDr
              rw [hD] at key
              simp only [Option.bind_some]
              cases er : linesIn lineIn (c :: b').length (0 + l.length + 1) (some D) r with
              | error f =>
                rw [er] at key
                have key : none = (strictRun ([], []) (cut 10 [] (codes r))).map some := key
                cases es : strictRun ([], []) (cut 10 [] (codes r)) with
                | none => rfl
                | some t => rw [es] at key; cases key
              | ok F' =>
                rw [er] at key
                have key : some (F'.map absC) = (strictRun ([], []) (cut 10 [] (codes r))).map some := key
                cases es : strictRun ([], []) (cut 10 [] (codes r)) with
                | none => rw [es] at key; cases key
                | some t =>
                  rw [es] at key
                  have key : F'.map absC = some t := Option.some.inj key
                  cases F' with
                  | none => cases key
                  | some F =>
                    have hF : absC F = t := by simpa using key
                    subst hF
                    simp only [Option.bind_some]
                    have hlen : (absC F).1.length = F.races.length := List.length_map _
                    rw [hlen]
                    by_cases hz : F.races = []
                    · show ((if F.races = [] then _ else _ : Except Fault Card).toOption.map _) = _
                      rw [if_pos hz, if_neg (by simp [hz])]
                      rfl
                    · show ((if F.races = [] then _ else _ : Except Fault Card).toOption.map _) = _
                      rw [if_neg hz, if_pos (by have := List.length_pos_iff.mpr hz; omega)]
                      rfl
end Mir
set_option linter.all false
namespace Mir
open Tote
structure FieldOk (f : List Nat) : Prop where
  nd : f.Nodup
  len : f.length ≤ 24
  rng : ∀ x ∈ f, 1 ≤ x ∧ x ≤ 24
structure PoolOk (p : MPool) : Prop where
  kind : p.kind = kw "place" ∨ p.kind = kw "order" ∨ p.kind = kw "any" ∨ p.kind = kw "legs"
  size : 1 ≤ p.size ∧ p.size ≤ 6
  two : p.kind ≠ kw "place" → 2 ≤ p.size
  one : p.kind ≠ kw "legs" → ∃ f, p.fields = [f] ∧ p.size ≤ f.length ∧ p.size ≤ 4
  any : p.kind = kw "any" → p.size ≤ 3
  legs : p.kind = kw "legs" → p.fields.length = p.size
  each : ∀ f ∈ p.fields, FieldOk f
theorem heads_ok {n : Nat} (hn : n ≤ 24) (ss : List Nat) : FieldOk (heads n ss) := by
  unfold heads
  refine ⟨?_, ?_, ?_⟩
  · refine List.Pairwise.filter _ ?_
    refine List.Pairwise.map _ (fun a b h => ?_) List.nodup_range
    show ¬ a + 1 = b + 1
    have : ¬ a = b := h
    omega
  · refine Nat.le_trans (List.length_filter_le _ _) ?_
    rw [List.length_map, List.length_range]
    exact hn
  · intro x hx
    have := (List.mem_filter.mp hx).1
    obtain ⟨i, hi, rfl⟩ := List.mem_map.mp this
    have := List.mem_range.mp hi
    show 1 ≤ i + 1 ∧ i + 1 ≤ 24
    omega
theorem raceM_ok {ws : List W} {f : List Nat} (h : raceM ws = some f) : FieldOk f := by
  unfold raceM at h
  split at h
  · split at h
    · cases h
    · simp only [Option.bind_eq_some_iff, Option.map_eq_some_iff] at h
      obtain ⟨n, hn, ss, _, rfl⟩ := h
      exact heads_ok (num_lt hn).2 ss
  · cases h
theorem sizes_ok {kd : W} {lh : Nat × Nat} (h : sizesM kd = some lh) : (kd = kw "place" ∧ lh = (1, 4)) ∨ (kd = kw "order" ∧ lh = (2, 4)) ∨ (kd = kw "any" ∧ lh = (2, 3)) ∨ (kd = kw "legs" ∧ lh = (2, 6)) := by
  unfold sizesM at h
  split at h
  · next q => cases h; exact .inl ⟨q, rfl⟩
  split at h
  · next q => cases h; exact .inr (.inl ⟨q, rfl⟩)
  split at h
  · next q => cases h; exact .inr (.inr (.inl ⟨q, rfl⟩))
  split at h
  · next q => cases h; exact .inr (.inr (.inr ⟨q, rfl⟩))
  cases h
theorem poolM_ok {R : List (List Nat)} {ws : List W} {p : MPool} (hR : ∀ f ∈ R, FieldOk f) (h : poolM R ws = some p) : PoolOk p := by
  obtain ⟨pw, n, kd, k, f, r, t0, t, b0, b, m0, m, u0, u, z0, z, lh, size, race, fs, q, hs, hk, hr, ht, hz, hf⟩ := poolM_inv h
  have hsz := num_lt hk
  have hrc := num_lt hr
  have d1 : kw "place" ≠ kw "legs" := by decide
  have d2 : kw "order" ≠ kw "legs" := by decide
  have d3 : kw "any" ≠ kw "legs" := by decide
  have d4 : kw "place" ≠ kw "any" := by decide
  have d5 : kw "order" ≠ kw "any" := by decide
  have d6 : kw "legs" ≠ kw "any" := by decide
  unfold fieldsM at hf
  by_cases hl : kd = kw "legs"
  · rw [if_pos hl] at hf
    split at hf
    · cases hf
    next hlen =>
    cases hf
    have hb : lh = (2, 6) := by
      rcases sizes_ok hs with q | q | q | q
      · exact absurd (q.1.symm.trans hl) d1
      · exact absurd (q.1.symm.trans hl) d2
      · exact absurd (q.1.symm.trans hl) d3
      · exact q.2
    rw [hb] at hsz
    simp only at hsz
    refine ⟨.inr (.inr (.inr hl)), ⟨by show 1 ≤ size; omega, hsz.2⟩, fun _ => hsz.1, fun z => absurd hl z, fun z => absurd (hl.symm.trans z) d6, fun _ => ?_, fun g hg => hR g (List.mem_of_mem_drop (List.mem_of_mem_take hg))⟩
    show ((R.drop (race - 1)).take size).length = size
    rw [List.length_take, List.length_drop]
    omega
  · rw [if_neg hl, Option.bind_eq_some_iff] at hf
    obtain ⟨g, hg, hf⟩ := hf
    split at hf
    · cases hf
    next hlen =>
    cases hf
    have h4 : lh.2 ≤ 4 ∧ 1 ≤ lh.1 ∧ (kd ≠ kw "place" → 2 ≤ lh.1) ∧ (kd = kw "any" → lh.2 ≤ 3) ∧ (kd = kw "place" ∨ kd = kw "order" ∨ kd = kw "any" ∨ kd = kw "legs") := by
      rcases sizes_ok hs with q | q | q | q
      · rw [q.2]; exact ⟨by decide, by decide, fun z => absurd q.1 z, fun z => absurd (q.1.symm.trans z) d4, .inl q.1⟩
      · rw [q.2]; exact ⟨by decide, by decide, fun _ => by decide, fun z => absurd (q.1.symm.trans z) d5, .inr (.inl q.1)⟩
      · rw [q.2]; exact ⟨by decide, by decide, fun _ => by decide, fun _ => by decide, .inr (.inr (.inl q.1))⟩
      · exact absurd q.1 hl
    refine ⟨h4.2.2.2.2, ⟨by show 1 ≤ size; omega, by show size ≤ 6; omega⟩, fun z => ?_, fun _ => ⟨g, rfl, by show size ≤ _; omega, by show size ≤ 4; omega⟩, fun z => ?_, fun z => absurd z hl, fun g' hg' => ?_⟩
    · have := h4.2.2.1 z; show 2 ≤ size; omega
    · have := h4.2.2.2.1 z; show size ≤ 3; omega
    · have : g' = g := by simpa using hg'
      rw [this]
      exact hR g (List.mem_of_getElem? hg)
structure StOk (s : St) : Prop where
  r : ∀ f ∈ s.1, FieldOk f
  p : ∀ q ∈ s.2, PoolOk q
theorem lax_ok {s t : St} {l : W} (hs : StOk s) (h : lax s l = some t) : StOk t := by
  unfold lax at h
  split at h
  · simp only [Option.map_eq_some_iff] at h
    obtain ⟨a, ha, rfl⟩ := h
    refine ⟨fun f hf => ?_, hs.p⟩
    rcases List.mem_append.mp hf with hf | hf
    · exact hs.r f hf
    · have : f = a := by simpa using hf
      rw [this]
      exact raceM_ok ha
  · simp only [Option.map_eq_some_iff] at h
    obtain ⟨a, ha, rfl⟩ := h
    refine ⟨hs.r, fun f hf => ?_⟩
    rcases List.mem_append.mp hf with hf | hf
    · exact hs.p f hf
    · have : f = a := by simpa using hf
      rw [this]
      exact poolM_ok hs.r ha
theorem laxAll_ok : ∀ {ls : List W} {s t : St}, StOk s → laxAll s ls = some t → StOk t
  | [], s, t, hs, h => by cases h; exact hs
  | l :: r, s, t, hs, h => by
    unfold laxAll at h
    rw [Option.bind_eq_some_iff] at h
    obtain ⟨u, h1, h2⟩ := h
    exact laxAll_ok (lax_ok hs h1) h2
theorem cardM_ok {cs : W} {ps : List MPool} (h : cardM cs = some ps) : (∀ p ∈ ps, PoolOk p) ∧ ps.length ≤ 64 := by
  unfold cardM at h
  rw [Option.bind_eq_some_iff] at h
  obtain ⟨ls, _, h⟩ := h
  split at h
  · cases h
  · simp only [Option.bind_eq_some_iff] at h
    obtain ⟨_, _, s, hs, h⟩ := h
    split at h
    · next q =>
      cases h
      exact ⟨(laxAll_ok ⟨by simp, by simp⟩ hs).p, ((okEnd_iff s).mp q).2.2.1⟩
    · cases h
def prodN (l : List Nat) : Nat := l.foldl (fun a b => a * b) 1
def countM (p : MPool) : Nat :=
  if p.kind = kw "legs" then prodN (p.fields.map List.length)
  else if p.kind = kw "place" then (p.fields.headD []).length
  else if p.kind = kw "order" then prodN ((List.range p.size).map fun i => (p.fields.headD []).length - i)
  else prodN ((List.range p.size).map fun i => (p.fields.headD []).length - i) / prodN ((List.range p.size).map fun i => i + 1)
theorem orders_prod : ∀ (k n : Nat), 2 ≤ k → k ≤ 4 → k ≤ n → orders n k = prodN ((List.range k).map fun i => n - i)
  | 2, n + 2, _, _, _ => by simp [orders, prodN, List.range, List.range.loop]
  | 3, n + 3, _, _, _ => by simp [orders, prodN, List.range, List.range.loop, Nat.mul_assoc]
  | 4, n + 4, _, _, _ => by simp [orders, prodN, List.range, List.range.loop, Nat.mul_assoc]
theorem orders_fact : ∀ (k : Nat), 2 ≤ k → k ≤ 3 → orders k k = prodN ((List.range k).map fun i => i + 1)
  | 2, _, _ => by decide
  | 3, _, _ => by decide
theorem many_eq (C : Card) (p : Pool) (h : PoolOk (mp C p)) : C.many p = countM (mp C p) := by
  have e1 : (mp C p).fields = C.sets p := rfl
  have e2 : (mp C p).kind = kindText p.kind := rfl
  have e3 : (mp C p).size = p.k := rfl
  unfold countM Card.many
  rw [e1, e2, e3]
  have two := h.two
  have one := h.one
  rw [e2, e3] at two
  rw [e1, e2, e3] at one
  cases hk : p.kind with
  | place =>
    rw [if_neg (show ¬ kindText .place = kw "legs" by decide), if_pos (show kindText .place = kw "place" from rfl)]
  | order =>
    rw [hk] at one two
    obtain ⟨f, hf, hl, h4⟩ := one (by decide)
    rw [if_neg (show ¬ kindText .order = kw "legs" by decide), if_neg (show ¬ kindText .order = kw "place" by decide), if_pos (show kindText .order = kw "order" from rfl), hf]
    exact orders_prod _ _ (two (by decide)) h4 hl
  | any =>
    rw [hk] at one two
    obtain ⟨f, hf, hl, h4⟩ := one (by decide)
    rw [if_neg (show ¬ kindText .any = kw "legs" by decide), if_neg (show ¬ kindText .any = kw "place" by decide), if_neg (show ¬ kindText .any = kw "order" by decide), hf]
    have h3 : p.k ≤ 3 := h.any (by rw [e2, hk]; rfl)
    show choose f.length p.k = _
    unfold choose
    rw [orders_prod _ _ (two (by decide)) h4 hl, orders_fact _ (two (by decide)) h3]
    rfl
  | legs => rw [if_pos (show kindText .legs = kw "legs" from rfl)]; rfl
abbrev Mon := List (Nat × Nat)
def monOk (many : Nat) : Int → Mon → Bool
  | _, [] => true
  | b, (x, c) :: r => !(decide ((x : Int) ≤ b) || (decide (many ≤ x) || decide (c = 0))) && monOk many (x : Int) r
def totM (m : Mon) : Nat := (m.map (·.2)).sum
theorem foldl_add (l : List Nat) : ∀ a, l.foldl (fun a b => a + b) a = a + l.sum := by
  induction l with
  | nil => intro a; simp
  | cons x l ih => intro a; rw [List.foldl_cons, ih, List.sum_cons]; omega
theorem total_eq (m : Mon) : Money.total m = totM m := by
  unfold Money.total totM
  rw [foldl_add]
  show 0 + (m.map fun x => x.2).sum = _
  omega
theorem monOk_cons (many : Nat) (b : Int) (x c : Nat) (r : Mon) : monOk many b ((x, c) :: r) = true ↔ (b < x ∧ x < many ∧ 0 < c) ∧ monOk many x r = true := by
  show (!(decide ((x : Int) ≤ b) || (decide (many ≤ x) || decide (c = 0))) && monOk many (x : Int) r) = true ↔ _
  rw [Bool.and_eq_true]
  refine and_congr ?_ Iff.rfl
  simp only [Bool.not_eq_true', Bool.or_eq_false_iff, decide_eq_false_iff_not]
  omega
theorem rises_mon (many : Nat) : ∀ (m : Mon) (b : Int), monOk many b m = true ↔ ((∀ x ∈ m.head?, b < (x.1 : Int)) ∧ risesN (m.map (·.1)) = true) ∧ m.all (fun x => decide (x.1 < many) && decide (0 < x.2)) = true
  | [], b => by simp [monOk, risesN]
  | [(x, c)], b => by
    rw [monOk_cons]
    simp [monOk, risesN]
  | (x, c) :: (y, d) :: r, b => by
    rw [monOk_cons, rises_mon many ((y, d) :: r) x]
    have e1 : risesN (((x, c) :: (y, d) :: r).map (·.1)) = (decide (x < y) && risesN (((y, d) :: r).map (·.1))) := rfl
    rw [e1, List.all_cons (a := (x, c))]
    generalize ((y, d) :: r).all (fun x => decide (x.1 < many) && decide (0 < x.2)) = A
    generalize risesN (((y, d) :: r).map (·.1)) = B
    simp only [List.head?_cons, Option.mem_def, Option.some.injEq, forall_eq', decide_eq_true_iff, Bool.and_eq_true]
    constructor
    · rintro ⟨⟨h1, h2, h3⟩, ⟨h4, h5⟩, h6⟩
      exact ⟨⟨h1, by omega, h5⟩, ⟨h2, h3⟩, h6⟩
    · rintro ⟨⟨h1, h4, h5⟩, ⟨h2, h3⟩, h6⟩
      exact ⟨⟨h1, h2, h3⟩, ⟨by omega, h5⟩, h6⟩
theorem right_eq (many : Nat) (m : Mon) (hm : m.length ≤ 8000) : Money.right many m = (monOk many (-1) m && decide (totM m ≤ 281474976710655)) := by
  unfold Money.right
  rw [total_eq]
  have h1 : decide (List.length m ≤ ENTRIES) = true := decide_eq_true (show m.length ≤ 262144 by omega)
  have h2 : (CENTS : Nat) = 281474976710655 := by decide
  rw [h1, h2, Bool.true_and]
  have key := rises_mon many m (-1)
  have h3 : ∀ x ∈ m.head?, (-1 : Int) < (x.1 : Int) := fun x _ => by omega
  rw [Bool.eq_iff_iff]
  simp only [Bool.and_eq_true]
  constructor
  · rintro ⟨a, b, c⟩
    exact ⟨key.mpr ⟨⟨h3, a⟩, b⟩, c⟩
  · rintro ⟨a, b⟩
    have := key.mp a
    exact ⟨this.1.2, this.2, b⟩
def onM (m : Mon) (j : Nat) : Nat := Money.on m j
theorem mon_gt {many : Nat} : ∀ {m : Mon} {b : Int}, monOk many b m = true → ∀ x ∈ m, b < (x.1 : Int) ∧ x.1 < many
  | [], _, _, x, hx => by cases hx
  | (y, c) :: r, b, h, x, hx => by
    have := (monOk_cons many b y c r).mp h
    rcases List.mem_cons.mp hx with rfl | hx
    · exact ⟨this.1.1, this.1.2.1⟩
    · have z := mon_gt this.2 x hx
      exact ⟨by omega, z.2⟩
theorem on_cons (y c : Nat) (r : Mon) (j : Nat) : Money.on ((y, c) :: r) j = if y = j then c else Money.on r j := by
  unfold Money.on
  rw [List.find?_cons]
  by_cases h : y = j
  · rw [if_pos h, show (y == j) = true from by simp [h]]; rfl
  · rw [if_neg h, show (y == j) = false from by simp [h]]
theorem on_zero {m : Mon} {j : Nat} (h : ∀ x ∈ m, x.1 ≠ j) : Money.on m j = 0 := by
  induction m with
  | nil => rfl
  | cons x r ih =>
    obtain ⟨y, c⟩ := x
    rw [on_cons, if_neg (h (y, c) List.mem_cons_self)]
    exact ih fun z hz => h z (List.mem_cons_of_mem _ hz)
theorem sum_add {l : List Nat} (f g : Nat → Nat) : (l.map fun j => f j + g j).sum = (l.map f).sum + (l.map g).sum := by
  induction l with
  | nil => rfl
  | cons x l ih => simp only [List.map_cons, List.sum_cons, ih]; omega
theorem sum_zero (l : List Nat) : (l.map fun _ => 0).sum = 0 := by
  induction l with
  | nil => rfl
  | cons x l ih => rw [List.map_cons, List.sum_cons, ih]
theorem sum_one {n y c : Nat} (hy : y < n) : ((List.range n).map fun j => if y = j then c else 0).sum = c := by
  induction n with
  | zero => omega
  | succ n ih =>
    rw [List.range_succ, List.map_append, List.sum_append]
    by_cases h : y = n
    · subst h
      have : ((List.range y).map fun j => if y = j then c else 0).sum = 0 := by
        rw [show ((List.range y).map fun j => if y = j then c else 0) = (List.range y).map fun _ => 0 from List.map_congr_left fun j hj => if_neg (by have := List.mem_range.mp hj; omega)]
        exact sum_zero _
      rw [this]
      simp
    · rw [ih (by omega)]
      simp [h]
theorem sum_on {many : Nat} : ∀ {m : Mon} {b : Int}, monOk many b m = true → ((List.range many).map (onM m)).sum = totM m
  | [], b, _ => by
    show ((List.range many).map fun _ => 0).sum = 0
    exact sum_zero _
  | (y, c) :: r, b, h => by
    have q := (monOk_cons many b y c r).mp h
    have ih := sum_on q.2
    have e : (List.range many).map (onM ((y, c) :: r)) = (List.range many).map fun j => (if y = j then c else 0) + onM r j := by
      refine List.map_congr_left fun j _ => ?_
      unfold onM
      rw [on_cons]
      by_cases z : y = j
      · rw [if_pos z, if_pos z, on_zero (fun x hx => by have := (mon_gt q.2 x hx).1; omega)]
        rfl
      · rw [if_neg z, if_neg z]; omega
    rw [e, sum_add, sum_one q.1.2.1, ih]
    rfl
def wM (f : List Nat) (m : Mon) (h : Nat) : Nat := if h ∈ f then onM m (f.findIdx fun y => y == h) else 0
theorem onHead_eq (C : Card) (p : Pool) (m : Mon) (h : Nat) (hk : p.kind = .place) : C.onHead p m h = wM (C.headsOf p.race) m h := by
  have hs : C.sets p = [C.headsOf p.race] := sets_one C p (by rw [hk]; decide)
  unfold Card.onHead Card.numberOf Card.isCombo wM
  rw [hs, hk]
  simp only [List.headD_cons, List.length_singleton, List.all_cons, List.all_nil, Bool.and_true]
  by_cases hm : h ∈ C.headsOf p.race
  · have : (C.headsOf p.race).contains h = true := List.contains_iff_mem.mpr hm
    rw [if_pos hm]
    simp [this, hm, rankOrder, orders, onM]
  · have : (C.headsOf p.race).contains h = false := by
      cases z : (C.headsOf p.race).contains h with
      | false => rfl
      | true => exact absurd (List.contains_iff_mem.mp z) hm
    rw [if_neg hm]
    simp [this, hm]
theorem lowest_scale {k : Nat} (hk : 0 < k) (a b : Nat) : lowest (k * a) (k * b) = lowest a b := by
  unfold lowest
  by_cases h : a = 0
  · simp [h]
  · rw [if_neg h, if_neg (by rw [Nat.mul_eq_zero]; omega)]
    simp only [Nat.gcd_mul_left, Nat.mul_div_mul_left _ _ hk]
theorem lowest_zero (b : Nat) : lowest 0 b = ⟨0, 1⟩ := by unfold lowest; rw [if_pos rfl]
theorem lowest_split {a b : Nat} (h : a ≠ 0) : ∃ g, 0 < g ∧ a = g * (lowest a b).over ∧ b = g * (lowest a b).under := by
  unfold lowest
  rw [if_neg h]
  exact ⟨Nat.gcd a b, Nat.gcd_pos_of_pos_left b (by omega), (Nat.mul_div_cancel' (Nat.gcd_dvd_left a b)).symm, (Nat.mul_div_cancel' (Nat.gcd_dvd_right a b)).symm⟩
theorem times_eq {a b c d : Nat} (ha : a ≠ 0) (hc : c ≠ 0) : (lowest a b).times (lowest c d) = lowest (a * c) (b * d) := by
  obtain ⟨g, hg, e1, e2⟩ := lowest_split (b := b) ha
  obtain ⟨g', hg', e3, e4⟩ := lowest_split (b := d) hc
  unfold Odds.times
  have h1 : a * c = (g * g') * ((lowest a b).over * (lowest c d).over) := by
    calc a * c = (g * (lowest a b).over) * (g' * (lowest c d).over) := by rw [← e1, ← e3]
      _ = _ := by rw [Nat.mul_assoc, Nat.mul_assoc, Nat.mul_left_comm (lowest a b).over]
  have h2 : b * d = (g * g') * ((lowest a b).under * (lowest c d).under) := by
    calc b * d = (g * (lowest a b).under) * (g' * (lowest c d).under) := by rw [← e2, ← e4]
      _ = _ := by rw [Nat.mul_assoc, Nat.mul_assoc, Nat.mul_left_comm (lowest a b).under]
  rw [h1, h2, lowest_scale (Nat.mul_pos hg hg')]
def chM (w : Nat → Nat) : Nat → Nat → Nat → List Nat → Odds
  | o, u, _, [] => lowest o u
  | o, u, left, h :: r => if w h = 0 then ⟨0, 1⟩ else chM w (o * w h) (u * left) (left - w h) r
theorem chM_zero_or (w : Nat → Nat) : ∀ (row : List Nat) (o u left : Nat), o ≠ 0 → (∃ a b, a ≠ 0 ∧ chance w left row = lowest a b ∧ chM w o u left row = lowest (o * a) (u * b)) ∨ (chance w left row = ⟨0, 1⟩ ∧ chM w o u left row = ⟨0, 1⟩)
  | [], o, u, left, ho => .inl ⟨1, 1, by decide, by unfold chance; decide, by unfold chM; rw [Nat.mul_one, Nat.mul_one]⟩
  | h :: r, o, u, left, ho => by
    unfold chance chM
    by_cases hw : w h = 0
    · rw [if_pos hw, if_pos hw]; exact .inr ⟨rfl, rfl⟩
    · rw [if_neg hw, if_neg hw]
      have ho' : o * w h ≠ 0 := by rw [Ne, Nat.mul_eq_zero]; omega
      rcases chM_zero_or w r (o * w h) (u * left) (left - w h) ho' with ⟨a, b, ha, e1, e2⟩ | ⟨e1, e2⟩
      · refine .inl ⟨w h * a, left * b, by rw [Ne, Nat.mul_eq_zero]; omega, ?_, ?_⟩
        · rw [e1, times_eq hw ha]
        · rw [e2, Nat.mul_assoc, Nat.mul_assoc]
      · refine .inr ⟨?_, e2⟩
        rw [e1]
        unfold Odds.times
        rw [Nat.mul_zero, lowest_zero]
theorem chance_eq (w : Nat → Nat) (S : Nat) (row : List Nat) : chance w S row = chM w 1 1 S row := by
  rcases chM_zero_or w row 1 1 S (by decide) with ⟨a, b, _, e1, e2⟩ | ⟨e1, e2⟩
  · rw [e1, e2, Nat.one_mul, Nat.one_mul]
  · rw [e1, e2]
end Mir
set_option linter.all false
namespace Mir
open Tote ToteOddsCalls OddsNeutral
def rowAny (row : List Nat) (f : List Nat) : Bool := decide (2 ≤ row.length) && (decide (row.length ≤ 3) && (risesN row && row.all f.contains))
def firsts (okRow : List Nat → Bool) (g : List Nat → Odds) (pool : Nat) (cs : W) (m : Mon) : List Int :=
  if 65536 < cs.length then [-2] else match cardM cs with
  | none => [-8]
  | some ps => match ps[pool]? with
    | none => [-4]
    | some p => if (monOk (countM p) (-1) m && decide (totM m ≤ 281474976710655)) = false then [-5]
      else if ¬ (p.kind = kw "place" ∧ p.size = 1 ∧ okRow (p.fields.headD []) = true) then [-1]
      else if m = [] then [-3] else [0, ((g (p.fields.headD [])).over : Int), ((g (p.fields.headD [])).under : Int)]
theorem codes_text {l : List Int} (h : ∀ x ∈ l, 0 ≤ x ∧ x ≤ 255) : codes (text l) = nats l := by
  unfold codes text nats
  rw [List.map_map, List.map_map]
  refine List.map_congr_left fun x hx => ?_
  have := h x hx
  show (UInt8.ofNat x.toNat).toNat = x.toNat
  rw [UInt8.toNat_ofNat']
  omega
theorem pairs_len : ∀ (l : List Int), (pairs l).length = l.length / 2
  | [] => rfl
  | [_] => by simp [pairs]
  | a :: b :: r => by
    show (pairs r).length + 1 = (r.length + 1 + 1) / 2
    rw [pairs_len r]
    omega
theorem tot_zero {many : Nat} {b : Int} : ∀ {m : Mon}, monOk many b m = true → (totM m = 0 ↔ m = [])
  | [], _ => by simp [totM]
  | (x, c) :: r, h => by
    have := (monOk_cons many b x c r).mp h
    simp [totM]
    omega
def flat (a : Ans) : List Int := a.code :: a.nums
theorem firsts_eq (t : Bytes) (i : Nat) (m : Mon) (hm : m.length ≤ 8000) (ok : Card → Pool → Bool) (g : (Nat → Nat) → Nat → Odds) (okRow : List Nat → Bool) (hok : ∀ C p, ok C p = okRow (C.headsOf p.race)) :
    flat (ofFirsts t i m ok fun w S => hands (g w S)) = firsts okRow (fun f => g (wM f m) (totM m)) i (codes t) m := by
  unfold ofFirsts ofCard firsts
  have hl : (codes t).length = t.length := by simp [codes]
  rw [hl]
  by_cases h1 : 65536 < t.length
  · rw [if_pos (show TEXT < List.length t from h1), if_pos h1]
    rfl
  · rw [if_neg (show ¬ TEXT < List.length t from h1), if_neg h1]
    rw [← card_eq t]
    cases hc : readCard t with
    | error e => rfl
    | ok C =>
      simp only [Except.toOption, Option.map_some, List.getElem?_map]
      have hM : cardM (codes t) = some (C.pools.map (mp C)) := by rw [← card_eq t, hc]; rfl
      have hOk := (cardM_ok hM).1
      cases hp : C.pools[i]? with
      | none => rfl
      | some p =>
        have hpo : PoolOk (mp C p) := hOk _ (List.mem_map.mpr ⟨p, List.mem_of_getElem? hp, rfl⟩)
        simp only [Option.map_some]
        rw [many_eq C p hpo, right_eq _ m hm, total_eq]
        by_cases h2 : (monOk (countM (mp C p)) (-1) m && decide (totM m ≤ 281474976710655)) = false
        · rw [if_pos h2, if_pos h2]
          rfl
        · rw [if_neg h2, if_neg h2]
          have hk : (mp C p).kind = kindText p.kind := rfl
          have hs : (mp C p).size = p.k := rfl
          by_cases h3 : p.kind = .place
          rotate_left
          · have e1 : (p.kind == Kind.place && (p.k == 1 && ok C p)) = false := by simp [h3]
            rw [if_pos e1, if_pos (fun z => h3 ((kindText_place _).mp z.1))]
            rfl
          have hf : (mp C p).fields.headD [] = C.headsOf p.race := by
            show (C.sets p).headD [] = _
            rw [sets_one C p (by rw [h3]; decide)]
            rfl
          rw [hf, hok C p, hk, hs]
          by_cases h4 : p.k = 1 ∧ okRow (C.headsOf p.race) = true
          · have e1 : ¬ (p.kind == Kind.place && (p.k == 1 && okRow (C.headsOf p.race))) = false := by simp [h3, h4]
            rw [if_neg e1, if_neg (show ¬ ¬ (kindText p.kind = kw "place" ∧ p.k = 1 ∧ okRow (C.headsOf p.race) = true) from fun z => z ⟨(kindText_place _).mpr h3, h4⟩)]
            have h2' : (monOk (countM (mp C p)) (-1) m && decide (totM m ≤ 281474976710655)) = true := by simpa using h2
            rw [Bool.and_eq_true] at h2'
            have tz := tot_zero h2'.1
            by_cases h5 : m = []
            · rw [if_pos (tz.mpr h5), if_pos h5]; rfl
            · rw [if_neg (fun z => h5 (tz.mp z)), if_neg h5]
              have : C.onHead p m = wM (C.headsOf p.race) m := by funext h; exact onHead_eq C p m h h3
              rw [this]
              rfl
          · have e1 : (p.kind == Kind.place && (p.k == 1 && okRow (C.headsOf p.race))) = false := by
              cases z : (p.kind == Kind.place && (p.k == 1 && okRow (C.headsOf p.race))) with
              | false => rfl
              | true =>
                simp only [Bool.and_eq_true, beq_iff_eq] at z
                exact absurd z.2 h4
            rw [if_pos e1, if_pos (fun z => h4 z.2)]
            rfl
theorem any_due (pool : Int) (card money row : List Int) (hm : money.length ≤ 16000) (hc : ∀ x ∈ card, 0 ≤ x ∧ x ≤ 255) :
    PyWqaqcp.any_of pool card money row = firsts (rowAny (nats row)) (fun f => chanceAny (wM f (pairs money)) (totM (pairs money)) (nats row)) pool.toNat (nats card) (pairs money) := by
  have e := firsts_eq (text card) pool.toNat (pairs money) (by rw [pairs_len]; omega) (anyOk (nats row)) (fun w S => chanceAny w S (nats row)) (rowAny (nats row)) (fun C p => rfl)
  rw [codes_text hc] at e
  exact Eq.trans (show _ = _ from rfl) e
end Mir
set_option linter.all false
set_option exponentiation.threshold 10000
namespace Mir
open Tote
def insAll (x : Nat) (p : List Nat) : List (List Nat) := (List.range (p.length + 1)).map fun i => p.take i ++ [x] ++ p.drop i
def ordP : List (List Nat) → List Nat → List (List Nat)
  | os, [] => os
  | os, x :: r => ordP (os.flatMap (insAll x)) r
theorem low_pos {a b : Nat} (h : 0 < b) : 0 < (lowest a b).under := by
  unfold lowest
  split
  · exact Nat.one_pos
  · exact Nat.div_pos (Nat.le_of_dvd h (Nat.gcd_dvd_right a b)) (Nat.gcd_pos_of_pos_right a h)
theorem low_over (a b : Nat) : (lowest a b).over ≤ a := by
  unfold lowest
  split
  · exact Nat.zero_le _
  · exact Nat.div_le_self _ _
theorem low_under {a b : Nat} (h : 0 < b) : (lowest a b).under ≤ b := by
  unfold lowest
  split
  · exact h
  · exact Nat.div_le_self _ _
theorem plus_pos {x y : Odds} (hx : 0 < x.under) (hy : 0 < y.under) : 0 < (x.plus y).under := low_pos (Nat.mul_pos hx hy)
theorem plus_low {p q : Nat} {y : Odds} (hq : 0 < q) : (lowest p q).plus y = lowest (p * y.under + y.over * q) (q * y.under) := by
  by_cases hp : p = 0
  · subst hp
    rw [lowest_zero]
    show lowest (0 * y.under + y.over * 1) (1 * y.under) = _
    rw [Nat.zero_mul, Nat.zero_add, Nat.mul_one, Nat.one_mul, Nat.zero_add, Nat.mul_comm y.over q, lowest_scale hq]
  · obtain ⟨g, hg, e1, e2⟩ := lowest_split (b := q) hp
    show lowest ((lowest p q).over * y.under + y.over * (lowest p q).under) ((lowest p q).under * y.under) = _
    generalize (lowest p q).over = o at e1
    generalize (lowest p q).under = u at e2
    subst e1 e2
    have h1 : g * o * y.under + y.over * (g * u) = g * (o * y.under + y.over * u) := by
      rw [Nat.mul_add, Nat.mul_assoc g o, Nat.mul_left_comm y.over g u]
    have h2 : g * u * y.under = g * (u * y.under) := Nat.mul_assoc _ _ _
    rw [h1, h2, lowest_scale hg]
theorem plus_rc {z x y : Odds} (hz : 0 < z.under) (hx : 0 < x.under) (hy : 0 < y.under) : (z.plus x).plus y = (z.plus y).plus x := by
  show (lowest (z.over * x.under + x.over * z.under) (z.under * x.under)).plus y = (lowest (z.over * y.under + y.over * z.under) (z.under * y.under)).plus x
  rw [plus_low (Nat.mul_pos hz hx), plus_low (Nat.mul_pos hz hy)]
  have h1 : (z.over * x.under + x.over * z.under) * y.under + y.over * (z.under * x.under) = (z.over * y.under + y.over * z.under) * x.under + x.over * (z.under * y.under) := by
    rw [Nat.add_mul, Nat.add_mul]
    have a1 : z.over * x.under * y.under = z.over * y.under * x.under := by ac_rfl
    have a2 : x.over * z.under * y.under = x.over * (z.under * y.under) := by ac_rfl
    have a3 : y.over * (z.under * x.under) = y.over * z.under * x.under := by ac_rfl
    rw [a1, a2, a3]
    omega
  have h2 : z.under * x.under * y.under = z.under * y.under * x.under := by ac_rfl
  rw [h1, h2]
theorem fold_perm {l m : List Odds} (h : l.Perm m) : ∀ z : Odds, 0 < z.under → (∀ x ∈ l, 0 < x.under) → l.foldl Odds.plus z = m.foldl Odds.plus z := by
  induction h with
  | nil => intro z _ _; rfl
  | cons x _ ih =>
    intro z hz hl
    exact ih _ (plus_pos hz (hl x List.mem_cons_self)) fun y hy => hl y (List.mem_cons_of_mem _ hy)
  | swap x y l =>
    intro z hz hl
    show l.foldl Odds.plus ((z.plus y).plus x) = l.foldl Odds.plus ((z.plus x).plus y)
    rw [plus_rc hz (hl y List.mem_cons_self) (hl x (List.mem_cons_of_mem _ List.mem_cons_self))]
  | trans h1 _ a b =>
    intro z hz hl
    rw [a z hz hl, b z hz fun x hx => hl x (h1.mem_iff.mpr hx)]
theorem chM_bd (c : Nat → Nat) {M : Nat} (hM : 0 < M) : ∀ (row : List Nat) (o u left : Nat), (row.map c).sum ≤ left → 0 < u → left ≤ M →
    0 < (chM c o u left row).under ∧ (chM c o u left row).over ≤ o * M ^ row.length ∧ (chM c o u left row).under ≤ u * M ^ row.length
  | [], o, u, left, _, hu, _ => by
    unfold chM
    refine ⟨low_pos hu, ?_, ?_⟩
    · rw [List.length_nil, Nat.pow_zero, Nat.mul_one]; exact low_over o u
    · rw [List.length_nil, Nat.pow_zero, Nat.mul_one]; exact low_under hu
  | h :: r, o, u, left, hs, hu, hl => by
    rw [List.map_cons, List.sum_cons] at hs
    unfold chM
    have hp : 0 < u * M ^ (h :: r).length := Nat.mul_pos hu (Nat.pow_pos hM)
    by_cases hc : c h = 0
    · rw [if_pos hc]
      exact ⟨Nat.one_pos, Nat.zero_le _, hp⟩
    · rw [if_neg hc]
      obtain ⟨h1, h2, h3⟩ := chM_bd c hM r (o * c h) (u * left) (left - c h) (by omega) (Nat.mul_pos hu (by omega)) (by omega)
      refine ⟨h1, Nat.le_trans h2 ?_, Nat.le_trans h3 ?_⟩
      · rw [List.length_cons, Nat.pow_succ, Nat.mul_assoc, Nat.mul_comm (M ^ r.length) M]
        exact Nat.mul_le_mul_left _ (Nat.mul_le_mul_right _ (by omega))
      · rw [List.length_cons, Nat.pow_succ, Nat.mul_assoc, Nat.mul_comm (M ^ r.length) M]
        exact Nat.mul_le_mul_left _ (Nat.mul_le_mul_right _ hl)
def anyP (c : Nat → Nat) (S : Nat) (row : List Nat) : Odds := ((ordP [[]] row).map fun r => chM c 1 1 S r).foldl Odds.plus ⟨0, 1⟩
theorem anyP_two (a b : Nat) : ordP [[]] [a, b] = [[b, a], [a, b]] := rfl
theorem anyP_three (a b c : Nat) : ordP [[]] [a, b, c] = [[c, b, a], [b, c, a], [b, a, c], [c, a, b], [a, c, b], [a, b, c]] := rfl
theorem chanceAny_map (c : Nat → Nat) (S : Nat) (row : List Nat) : chanceAny c S row = ((ordersOf row row.length).map fun r => chM c 1 1 S r).foldl Odds.plus ⟨0, 1⟩ := by
  unfold chanceAny
  rw [List.foldl_map]
  congr 1
  funext a r
  rw [chance_eq]
theorem orders_two {a b : Nat} (h : a ≠ b) : ordersOf [a, b] 2 = [[a, b], [b, a]] := by
  simp [ordersOf, List.erase_cons, h, Ne.symm h]
theorem orders_three {a b c : Nat} (h1 : a ≠ b) (h2 : a ≠ c) (h3 : b ≠ c) : ordersOf [a, b, c] 3 = [[a, b, c], [a, c, b], [b, a, c], [b, c, a], [c, a, b], [c, b, a]] := by
  simp [ordersOf, List.erase_cons, h1, h2, h3, Ne.symm h1, Ne.symm h2, Ne.symm h3]
theorem perm6 {α : Type} [DecidableEq α] (a b c d e f : α) : List.Perm [f, d, c, e, b, a] [a, b, c, d, e, f] := by
  rw [List.perm_iff_count]
  intro x
  simp only [List.count_cons, List.count_nil]
  ac_rfl
theorem perm2 {α : Type} (a b : α) : List.Perm [b, a] [a, b] := List.Perm.swap a b []
theorem rises2 {a b : Nat} (h : risesN [a, b] = true) : a < b := by
  unfold risesN at h
  simp only [Bool.and_eq_true, decide_eq_true_eq] at h
  exact h.1
theorem rises3 {a b c : Nat} (h : risesN [a, b, c] = true) : a < b ∧ b < c := by
  unfold risesN at h
  simp only [Bool.and_eq_true, decide_eq_true_eq] at h
  exact ⟨h.1, rises2 h.2⟩
theorem anyP_eq (c : Nat → Nat) (S : Nat) (row : List Nat) (hl : row.length = 2 ∨ row.length = 3) (hr : risesN row = true) (hp : ∀ r ∈ ordP [[]] row, 0 < (chM c 1 1 S r).under) : anyP c S row = chanceAny c S row := by
  rw [chanceAny_map]
  unfold anyP
  rcases hl with hl | hl
  · match row, hl with
    | [a, b], _ =>
      have h := rises2 hr
      rw [anyP_two] at hp ⊢
      rw [show [a, b].length = 2 from rfl, orders_two (by omega)]
      refine fold_perm ((perm2 [a, b] [b, a]).map _) _ Nat.one_pos fun x hx => ?_
      obtain ⟨r, hr, rfl⟩ := List.mem_map.mp hx
      exact hp r hr
  · match row, hl with
    | [a, b, d], _ =>
      obtain ⟨h1, h2⟩ := rises3 hr
      rw [anyP_three] at hp ⊢
      rw [show [a, b, d].length = 3 from rfl, orders_three (by omega) (by omega) (by omega)]
      refine fold_perm ((perm6 [a, b, d] [a, d, b] [b, a, d] [b, d, a] [d, a, b] [d, b, a]).map _) _ Nat.one_pos fun x hx => ?_
      obtain ⟨r, hr, rfl⟩ := List.mem_map.mp hx
      exact hp r hr
end Mir
set_option Elab.async false
set_option linter.all false
set_option maxRecDepth 100000
set_option maxHeartbeats 2000000
set_option exponentiation.threshold 10000
namespace Od
open PySem PySem.Spec PyProof.Rows L2
def top (i : Nat) : Stmt := PySem.Challenge.pw_chancehalldesk_s02_any_of.main.body.getD i (.Pass ⟨0, 0, 0, 0⟩)
abbrev s_pool_init : Stmt := inClass (top 17) 0
abbrev s_read_card : Stmt := top 18
abbrev s_lines_of : Stmt := top 19
abbrev s_text_of : Stmt := top 20
abbrev s_check_day : Stmt := top 21
abbrev s_check_name : Stmt := top 22
abbrev s_check_names_differ : Stmt := top 23
abbrev s_read_number : Stmt := top 24
abbrev s_read_race : Stmt := top 25
abbrev s_read_pool : Stmt := top 26
abbrev s_check_fixed_words : Stmt := top 27
abbrev s_check_terms : Stmt := top 28
abbrev s_check_none : Stmt := top 29
abbrev s_fields_of : Stmt := top 30
abbrev s_greatest_divisor : Stmt := top 32
abbrev s_lowest_terms : Stmt := top 33
abbrev s_add_fractions : Stmt := top 34
abbrev s_chance_of_order : Stmt := top 36
abbrev s_chance_of_set : Stmt := top 37
abbrev s_orders_of : Stmt := top 38
abbrev s_product : Stmt := top 42
abbrev s_count_combinations : Stmt := top 43
abbrev s_is_money_right : Stmt := top 44
abbrev s_cents_of_interests : Stmt := top 45
abbrev s_any_of : Stmt := top 56
abbrev s_answer_chance : Stmt := top 57
abbrev s_is_on_firsts : Stmt := top 58
abbrev s_is_set : Stmt := top 59
theorem ndec {p : Prop} [Decidable p] (h : ¬ decide p = true) : ¬ p := fun q => h (decide_eq_true q)
def GV (mg : Str → Option Value) (x : Str) (v : V) : Prop := ∃ u, mg x = some u ∧ RelV v u
theorem pe_gl {X : Cx} {x : Str} {v : V} {pos : Pos} (h : GV X.mg x v) (hg : Gl X x := by rfl) (hd : (x == ("__debug__" : Str)) = false := by decide) : PE X (.Name x pos) (tC v) :=
  let ⟨_, a, b⟩ := h
  pe_glob hg a b hd
section
variable {X : Cx}
theorem op_fdivB : OpR X (binaryOp .FloorDiv) (rI (fun _ j => 0 < j ∧ j.natAbs.log2 < 9000) fun i j => .int (i / j)) := opI fun i j _ _ _ _ _ hc q => by
  have h1 : (0 : Int) < j := hc.1
  exact floordiv_int (Int.ne_of_gt h1) (by rw [Int.fdiv_eq_ediv_of_nonneg i (Int.le_of_lt h1)]; exact q) (.inl (PyProof.noPylong_of_log2 hc.2))
theorem op_mulB : OpR X (binaryOp .Mult) (rI (fun i j => Builtin.Int.intBits i ≤ 2 ^ 20 ∧ Builtin.Int.intBits j ≤ 2 ^ 20) fun i j => .int (i * j)) := opI fun _ _ _ _ _ _ _ hc q => mul_int q (.of_bits hc.1 hc.2)
end
def vN (l : List Nat) : List V := l.map fun (n : Nat) => V.int (n : Int)
theorem vN_get {l : List Nat} {i : Nat} {x : V} (h : (vN l)[i]? = some x) : ∃ n, l[i]? = some n ∧ x = .int (n : Int) := by
  unfold vN at h
  rw [List.getElem?_map] at h
  cases e : l[i]? with
  | none => rw [e] at h; cases h
  | some n => rw [e] at h; exact ⟨n, rfl, (Option.some.inj h).symm⟩
theorem vN_len (l : List Nat) : (vN l).length = l.length := List.length_map _
theorem vN_flat (l : List Nat) : (vN l).all flatV = true := by
  unfold vN
  rw [List.all_map]
  exact List.all_eq_true.mpr fun _ _ => rfl
theorem vN_in (x : Nat) : ∀ l : List Nat, inV (.int (x : Int)) (vN l) = decide (x ∈ l)
  | [] => rfl
  | y :: l => by
    show (eqV (.int (y : Int)) (.int (x : Int)) || inV (.int (x : Int)) (vN l)) = _
    rw [vN_in x l]
    by_cases h : x = y
    · subst h
      have : eqV (.int (x : Int)) (.int (x : Int)) = true := by show ((x : Int) == (x : Int)) = true; simp
      rw [this]; simp
    · have : eqV (.int (y : Int)) (.int (x : Int)) = false := by
        show ((y : Int) == (x : Int)) = false
        simp; omega
      rw [this]; simp [h]
theorem take_snoc {α : Type} : ∀ {l : List α} {i : Nat} {x : α}, l[i]? = some x → l.take (i + 1) = l.take i ++ [x]
  | [], i, x, h => by simp at h
  | a :: l, 0, x, h => by
    have e : a = x := Option.some.inj h
    subst e
    rfl
  | a :: l, i + 1, x, h => by
    have ih := take_snoc (l := l) (i := i) (x := x) h
    show a :: l.take (i + 1) = a :: l.take i ++ [x]
    rw [ih]
    rfl
theorem drop_cons {α : Type} : ∀ {l : List α} {i : Nat} {x : α}, l[i]? = some x → l.drop i = x :: l.drop (i + 1)
  | [], i, x, h => by simp at h
  | a :: l, 0, x, h => by
    have e : a = x := Option.some.inj h
    subst e
    rfl
  | a :: l, i + 1, x, h => drop_cons (l := l) (i := i) h
end Od
set_option Elab.async false
set_option linter.all false
set_option maxRecDepth 100000
set_option maxHeartbeats 2000000
set_option exponentiation.threshold 10000
namespace Od
open PySem PySem.Spec PyProof.Rows L2
section
variable {P : Program} {w : World} {K : PySem.W.Frag} {mg : Str → Option Value} {base : Heap}
def spGcd : Sp := fun vs H Q _ => ∃ a b : Nat, vs = [.int (a : Int), .int (b : Int)] ∧ Q (.int (Nat.gcd a b : Nat)) H
theorem scGcd : FnScope ["one", "other", "rest"] ["one", "other"] (defScope s_greatest_divisor) := ⟨rfl, rfl, rfl, by decide +kernel, rfl, by decide +kernel, by decide +kernel⟩
def muGcd : L2.St → Nat
  | [_, some (.int y), _] => y.toNat
  | _ => 0
theorem ok_gcd {f : Addr} {fd : FuncData} (F : Fun K "greatest_divisor" "greatest_divisor" s_greatest_divisor f fd) : FnOk P w K mg base CX0 1 f fd ["one", "other"] spGcd := by
  refine F.ok scGcd (fun vs H Q E h => ?_) (fun cdv A outer s H vs Q E hr h => ?_)
  · obtain ⟨a, b, rfl, _⟩ := h
    rfl
  · obtain ⟨a, b, rfl, k⟩ := h
    refine ⟨_, pss_cons (ps_while PassesOwn.never (pt_cmpR op_ne (pv 1) pe_int (nomark _))
      (pss_cons (ps_set (i := 2) scGcd.nd rfl (Or.inl rfl) (pe_op op_mod (pv 0) (pv 1)))
      (pss_cons (ps_set (i := 0) scGcd.nd rfl (Or.inl rfl) (pv 1))
      (pss_one (ps_set (i := 1) scGcd.nd rfl (Or.inl rfl) (pv 2))))))
      (pss_one (ps_ret (pv 0))), ?_⟩
    refine while_by (fun σ H' => ∃ (x y : Nat) (r : Option V), σ = [some (.int (x : Int)), some (.int (y : Int)), r] ∧ Nat.gcd x y = Nat.gcd a b ∧ H' = H) (fun σ _ => muGcd σ) ⟨a, b, none, rfl, rfl, rfl⟩ ?_ ?_
    · rintro σ H' ⟨x, y, r, rfl, hg, rfl⟩
      refine ⟨_, rfl, rfl, _, rfl, ?_⟩
      refine ite2 (fun hy => ?_) (fun hy => ?_)
      · have hy0 : y ≠ 0 := by
          rintro rfl
          simp at hy
        refine ⟨_, rfl, _, rfl, _, _, rfl, rfl, (by show (0 : Int) < (y : Int); omega), _, rfl, _, rfl, ⟨y, x % y, some (.int ((x : Int) % (y : Int))), ?_, ?_, rfl⟩, ?_⟩
        · show [some (V.int (y : Int)), some (V.int ((x : Int) % (y : Int))), some (V.int ((x : Int) % (y : Int)))] = _
          rw [Int.natCast_emod]
        · rw [Nat.gcd_comm y, ← Nat.gcd_rec, Nat.gcd_comm y x]; exact hg
        · show ((x : Int) % (y : Int)).toNat < (y : Int).toNat
          have := Int.emod_lt_of_pos (x : Int) (show (0 : Int) < y by omega)
          have := Int.emod_nonneg (x : Int) (show (y : Int) ≠ 0 by omega)
          omega
      · have hy0 : y = 0 := by
          simp at hy
          exact hy
        subst hy0
        refine ⟨_, rfl, ?_⟩
        rw [Nat.gcd_zero_right] at hg
        rw [hg]
        exact k
    · rintro σ H' Q1 Q2 hq ⟨v, e, sc, c, ec, q⟩
      exact ⟨v, e, sc, c, ec, hq _ _ q⟩
theorem p4000 : (2 : Nat) ^ 8000 = 2 ^ 4000 * 2 ^ 4000 := by rw [← Nat.pow_add]
theorem bits_great {n : Nat} (h : n < 2 ^ 8000) : Builtin.Int.intBits (n : Int) ≤ 2 ^ 20 := by
  unfold Builtin.Int.intBits
  split
  · exact Nat.zero_le _
  · rename_i h0
    rw [Int.natAbs_natCast]
    have hn : n ≠ 0 := by
      rintro rfl
      exact h0 rfl
    have e := (Nat.log2_lt hn).mpr h
    exact Nat.le_trans (Nat.succ_le_of_lt e) (by decide)
theorem log2_great {n : Nat} (h : n < 2 ^ 8000) : (n : Int).natAbs.log2 < 9000 := by
  rw [Int.natAbs_natCast]
  by_cases h0 : n = 0
  · subst h0; decide
  · exact Nat.lt_trans ((Nat.log2_lt h0).mpr h) (by decide)
theorem lt8000 {n : Nat} (h : n < 2 ^ 4000) : n < 2 ^ 8000 := Nat.lt_trans h (Nat.pow_lt_pow_right (by decide) (by decide))
theorem low_eq (a b : Nat) (hb : 0 < b) : Tote.lowest a b = ⟨a / Nat.gcd a b, b / Nat.gcd a b⟩ := by
  unfold Tote.lowest
  by_cases h : a = 0
  · subst h
    rw [if_pos rfl, Nat.gcd_zero_left, Nat.zero_div, Nat.div_self hb]
  · rw [if_neg h]
def spLow : Sp := fun vs H Q _ => ∃ a b : Nat, vs = [.int (a : Int), .int (b : Int)] ∧ 0 < b ∧ b < 2 ^ 8000 ∧ ∀ p, H p = none → Q (.ref p) (upd H p (.tup [.int ((Tote.lowest a b).over : Int), .int ((Tote.lowest a b).under : Int)]))
theorem scLow : FnScope ["over", "under", "divisor"] ["over", "under"] (defScope s_lowest_terms) := ⟨rfl, rfl, rfl, by decide +kernel, rfl, by decide +kernel, by decide +kernel⟩
theorem ok_low {f g : Addr} {fd fdG : FuncData} (F : Fun K "lowest_terms" "lowest_terms" s_lowest_terms f fd) (FG : Fun K "greatest_divisor" "greatest_divisor" s_greatest_divisor g fdG) (mgG : mg "greatest_divisor" = some (.ref g))
    (bG : Binds K fdG ["one", "other"] []) : FnOk P w K mg base CX0 2 f fd ["over", "under"] spLow := by
  have G : FnOk P w K mg base CX0 1 g fdG ["one", "other"] spGcd := ok_gcd FG
  refine F.ok scLow (fun vs H Q E h => ?_) (fun cdv A outer s H vs Q E hr h => ?_)
  · obtain ⟨a, b, rfl, _⟩ := h
    rfl
  · obtain ⟨a, b, rfl, hb, hb2, k⟩ := h
    refine ⟨_, pss_cons (ps_set (i := 2) scLow.nd rfl (Or.inl rfl) (pe_call G hr rfl mgG FG.kp bG .nil pass0 (pa_cons (pv 0) (pa_cons (pv 1) pa_nil))))
      (pss_one (ps_ret (pe_tup (pa_cons (pe_op op_fdivB (pv 0) (pv 2)) (pa_cons (pe_op op_fdivB (pv 1) (pv 2)) pa_nil))))), ?_⟩
    have hg : 0 < Nat.gcd a b := Nat.gcd_pos_of_pos_right a hb
    have hg2 : Nat.gcd a b < 2 ^ 8000 := Nat.lt_of_le_of_lt (Nat.le_of_dvd hb (Nat.gcd_dvd_right a b)) hb2
    have hg3 : (0 : Int) < ((Nat.gcd a b : Nat) : Int) := Int.natCast_pos.mpr hg
    refine ⟨_, rfl, _, rfl, a, b, rfl, ?_⟩
    refine ⟨_, rfl, _, rfl, _, _, rfl, rfl, ⟨hg3, log2_great hg2⟩, _, rfl, _, rfl, _, _, rfl, rfl, ⟨hg3, log2_great hg2⟩, ?_⟩
    refine ⟨(by show 2 ≤ sizeLine; decide), fun p hp => ?_⟩
    have := k p hp
    rw [low_eq a b hb] at this
    simp only [Int.natCast_ediv] at this
    exact this
end
end Od
set_option Elab.async false
set_option linter.all false
set_option maxRecDepth 100000
set_option maxHeartbeats 2000000
namespace Od
open PySem PySem.Spec PyProof.Rows L2
theorem str_eq {k : Str} {s : String} : V.str k = V.str (Str.ofString s) ↔ TL.tl k = Mir.kw s := by
  constructor
  · intro e
    injection e with e
    rw [e, TL.tl_ofString]; rfl
  · intro e
    exact congrArg V.str (TL.ext_tl (e.trans (TL.tl_ofString s).symm))
theorem str_dec (k : Str) (s : String) : decide (V.str k = V.str (Str.ofString s)) = decide (TL.tl k = Mir.kw s) := decide_eq_decide.mpr str_eq
theorem int_dec (a b : Int) : decide (V.int a = V.int b) = decide (a = b) := decide_eq_decide.mpr ⟨fun e => by injection e, fun e => congrArg V.int e⟩
def poolFs (n k : Str) (z : Int) (l : Addr) : List (Str × V) := putF "fields" (.ref l) (putF "size" (.int z) (putF "kind" (.str k) (putF "name" (.str n) [])))
theorem pf_fields (n k : Str) (z : Int) (l : Addr) : (poolFs n k z l).lookup ("fields" : Str) = some (.ref l) := by
  unfold poolFs
  rw [lookup_putF, if_pos rfl]
theorem pf_size (n k : Str) (z : Int) (l : Addr) : (poolFs n k z l).lookup ("size" : Str) = some (.int z) := by
  unfold poolFs
  rw [lookup_putF, if_neg (by decide +kernel), lookup_putF, if_pos rfl]
theorem pf_kind (n k : Str) (z : Int) (l : Addr) : (poolFs n k z l).lookup ("kind" : Str) = some (.str k) := by
  unfold poolFs
  rw [lookup_putF, if_neg (by decide +kernel), lookup_putF, if_neg (by decide +kernel), lookup_putF, if_pos rfl]
theorem pf_name (n k : Str) (z : Int) (l : Addr) : (poolFs n k z l).lookup ("name" : Str) = some (.str n) := by
  unfold poolFs
  rw [lookup_putF, if_neg (by decide +kernel), lookup_putF, if_neg (by decide +kernel), lookup_putF, if_neg (by decide +kernel), lookup_putF, if_pos rfl]
structure Lists (H : Hp) (as : List Addr) (fs : List (List Nat)) : Prop where
  len : as.length = fs.length
  at_ : ∀ (j : Nat) (a : Addr), as[j]? = some a → ∃ f, fs[j]? = some f ∧ H a = some (.lst (vN f))
theorem Lists.same {H H' : Hp} {as : List Addr} {fs : List (List Nat)} (L : Lists H as fs) (e : Same H H') : Lists H' as fs := ⟨L.len, fun j a h => let ⟨f, h1, h2⟩ := L.at_ j a h; ⟨f, h1, e _ _ h2⟩⟩
structure PoolAt (C : Addr) (H : Hp) (p : Addr) (m : Mir.MPool) : Prop where
  ex : ∃ (dx l : Addr) (as : List Addr) (n k : Str), H p = some (.ins C dx (poolFs n k (m.size : Int) l)) ∧ TL.tl n = m.name ∧ TL.tl k = m.kind ∧ H l = some (.lst (as.map V.ref)) ∧ Lists H as m.fields
theorem PoolAt.same {C : Addr} {H H' : Hp} {p : Addr} {m : Mir.MPool} (L : PoolAt C H p m) (e : Same H H') : PoolAt C H' p m := by
  obtain ⟨dx, l, as, n, k, h1, h2, h3, h4, h5⟩ := L.ex
  exact ⟨dx, l, as, n, k, e _ _ h1, h2, h3, e _ _ h4, h5.same e⟩
structure TxtPool (K : PySem.W.Frag) (C : Addr) : Prop where
  cl : Cls K C
  nN : NoAttr K C "name"
  nK : NoAttr K C "kind"
  nS : NoAttr K C "size"
  nF : NoAttr K C "fields"
section
variable {P : Program} {w : World} {K : PySem.W.Frag} {mg : Str → Option Value} {base : Heap}
def spInit (C : Addr) : Sp := fun vs H Q _ => ∃ (p dx l : Addr) (n k : Str) (z : Int), vs = [.ref p, .str n, .str k, .int z, .ref l] ∧ H p = some (.ins C dx []) ∧
  ∀ H' : Hp, H' p = some (.ins C dx (poolFs n k z l)) → (∀ b o, H b = some o → b ≠ p → H' b = some o) → Q .non H'
theorem scInit : FnScope ["self", "name", "kind", "size", "fields"] ["self", "name", "kind", "size", "fields"] (defScope s_pool_init) := ⟨rfl, rfl, rfl, by decide +kernel, rfl, by decide +kernel, by decide +kernel⟩
theorem ok_init {f C : Addr} {fd : FuncData} (F : Fun K "__init__" "Pool.__init__" s_pool_init f fd) (T : TxtPool K C) : FnOk P w K mg base CX0 1 f fd ["self", "name", "kind", "size", "fields"] (spInit C) := by
  refine F.ok scInit (fun vs H Q E h => ?_) (fun cdv A outer s H vs Q E hr h => ?_)
  · obtain ⟨p, dx, l, n, k, z, rfl, _⟩ := h
    rfl
  · obtain ⟨p, dx, l, n, k, z, rfl, hp, q⟩ := h
    refine ⟨_, pss_cons (ps_fld (pv 0) (pv 1) rfl) (pss_cons (ps_fld (pv 0) (pv 2) rfl) (pss_cons (ps_fld (pv 0) (pv 3) rfl) (pss_one (ps_fld (pv 0) (pv 4) rfl)))), ?_⟩
    refine ⟨_, rfl, _, rfl, p, C, dx, [], rfl, hp, T.cl, T.nN, (by show 0 < 1000; decide), ?_⟩
    refine ⟨_, rfl, _, rfl, p, C, dx, _, rfl, upd_same, T.cl, T.nK, (by show 1 < 1000; decide), ?_⟩
    refine ⟨_, rfl, _, rfl, p, C, dx, _, rfl, upd_same, T.cl, T.nS, Nat.lt_of_le_of_lt (length_putF _ _ _) (by show 2 < 1000; decide), ?_⟩
    refine ⟨_, rfl, _, rfl, p, C, dx, _, rfl, upd_same, T.cl, T.nF, Nat.lt_of_le_of_lt (length_putF _ _ _) (Nat.lt_of_le_of_lt (Nat.add_le_add_right (length_putF _ _ _) 1) (by show 3 < 1000; decide)), ?_⟩
    refine q _ upd_same fun b o e hb => ?_
    rw [upd_ne hb, upd_ne hb, upd_ne hb, upd_ne hb]
    exact e
def spProd (K : PySem.W.Frag) : Sp := fun vs H Q _ => ∃ (a : Addr) (ns : List Nat), vs = [.ref a] ∧ SqL K H a (vN ns) ∧ (∀ n ∈ ns, n < 2 ^ 64) ∧ Q (.int (Mir.prodN ns : Nat)) H
theorem scProd : FnScope ["numbers", "result", "number"] ["numbers"] (defScope s_product) := ⟨rfl, rfl, rfl, by decide +kernel, rfl, by decide +kernel, by decide +kernel⟩
theorem prod_snoc (l : List Nat) (z : Nat) : Mir.prodN (l ++ [z]) = Mir.prodN l * z := by
  unfold Mir.prodN
  rw [List.foldl_append]
  rfl
theorem ok_prod {f : Addr} {fd : FuncData} (F : Fun K "product" "product" s_product f fd) : FnOk P w K mg base CX0 1 f fd ["numbers"] (spProd K) := by
  refine F.ok scProd (fun vs H Q E h => ?_) (fun cdv A outer s H vs Q E hr h => ?_)
  · obtain ⟨a, ns, rfl, _⟩ := h
    rfl
  · obtain ⟨a, ns, rfl, hS, hb, k⟩ := h
    refine ⟨_, pss_cons (ps_set (i := 1) scProd.nd rfl (Or.inl rfl) pe_int)
      (pss_cons (ps_for PassesOwn.never rfl (pi_list (pv 0)) (pg_name (i := 2) scProd.nd rfl (Or.inl rfl))
        (pss_one (ps_set (i := 1) scProd.nd rfl (Or.inl rfl) (pe_op op_mul (pv 1) (pv 2)))))
      (pss_one (ps_ret (pv 1)))), ?_⟩
    refine ⟨_, rfl, a, rfl, ⟨_, hS⟩, for_list (K := K) (a := a) (xs := vN ns) (fun i σ H' => ∃ v : Option V, σ = [some (.ref a), some (.int (Mir.prodN (ns.take i) : Nat)), v] ∧ H' = H) ⟨none, rfl, rfl⟩ (fun i σ H' _ ⟨_, _, e⟩ => by rw [e]; exact hS) ?_ ?_⟩
    · rintro i y σ H' hi ⟨v, rfl, rfl⟩
      obtain ⟨n, hn, rfl⟩ := vN_get hi
      have hn2 := hb n (List.mem_of_getElem? hn)
      refine ⟨_, rfl, _, rfl, _, _, rfl, rfl, .inr ⟨by omega, by omega⟩, ⟨some (.int (n : Int)), ?_, rfl⟩⟩
      rw [take_snoc hn, prod_snoc, Int.natCast_mul]
      rfl
    · rintro σ H' ⟨v, rfl, rfl⟩
      rw [vN_len, List.take_length]
      exact ⟨_, rfl, k⟩
def spFirsts (C : Addr) : Sp := fun vs H Q _ => ∃ (p : Addr) (m : Mir.MPool), vs = [.ref p] ∧ PoolAt C H p m ∧ Q (.bl (decide (m.kind = Mir.kw "place" ∧ m.size = 1))) H
theorem scFirsts : FnScope ["pool"] ["pool"] (defScope s_is_on_firsts) := ⟨rfl, rfl, rfl, by decide +kernel, rfl, by decide +kernel, by decide +kernel⟩
theorem ok_firsts {f C : Addr} {fd : FuncData} (F : Fun K "is_on_firsts" "is_on_firsts" s_is_on_firsts f fd) (T : TxtPool K C) : FnOk P w K mg base CX0 1 f fd ["pool"] (spFirsts C) := by
  refine F.ok scFirsts (fun vs H Q E h => ?_) (fun cdv A outer s H vs Q E hr h => ?_)
  · obtain ⟨p, m, rfl, _⟩ := h
    rfl
  · obtain ⟨p, m, rfl, hp, k⟩ := h
    obtain ⟨dx, l, as, n, kd, h1, h2, h3, h4, h5⟩ := hp.ex
    refine ⟨_, pss_one (ps_ret (pe_and (pe_cmpR op_eq (pe_fld (pv 0) rfl) pe_str (nomark _)) (pe_one (pe_cmpR op_eq (pe_fld (pv 0) rfl) pe_int (nomark _))))), ?_⟩
    refine ⟨_, rfl, p, C, dx, _, _, rfl, h1, T.cl, T.nK, pf_kind _ _ _ _, rfl, _, rfl, ?_⟩
    refine ite2 (fun e1 => ?_) (fun e1 => ?_)
    · refine ⟨_, rfl, p, C, dx, _, _, rfl, h1, T.cl, T.nS, pf_size _ _ _ _, rfl, ?_⟩
      have e2 : m.kind = Mir.kw "place" := by
        rw [← h3]
        exact str_eq.mp (of_decide_eq_true e1)
      have e3 : decide (V.int (m.size : Int) = V.int 1) = decide (m.kind = Mir.kw "place" ∧ m.size = 1) := by
        rw [int_dec]
        exact decide_eq_decide.mpr ⟨fun z => ⟨e2, by omega⟩, fun z => by omega⟩
      rw [e3]
      exact k
    · have e3 : decide (m.kind = Mir.kw "place" ∧ m.size = 1) = false := decide_eq_false fun z => e1 (decide_eq_true (str_eq.mpr (h3.trans z.1)))
      rw [e3] at k
      exact k
end
end Od
set_option Elab.async false
set_option linter.all false
set_option maxRecDepth 100000
set_option maxHeartbeats 2000000
namespace Od
open PySem PySem.Spec PyProof.Rows L2
def seenK (l : List Nat) : List (Key × V) := l.map fun (n : Nat) => ((Sum.inl (n : Int) : Key), V.bl true)
theorem seen_len (l : List Nat) : (seenK l).length = l.length := List.length_map _
theorem seen_any (n : Nat) : ∀ l : List Nat, ((seenK l).any fun kv => decide (kv.1 = (Sum.inl (n : Int) : Key))) = decide (n ∈ l)
  | [] => rfl
  | x :: l => by
    show (decide ((Sum.inl (x : Int) : Key) = Sum.inl (n : Int)) || (seenK l).any _) = _
    rw [seen_any n l]
    by_cases h : n = x
    · subst h; simp
    · have : ¬ (Sum.inl (x : Int) : Key) = Sum.inl (n : Int) := fun e => h (by have := Sum.inl.inj e; omega)
      simp [this, h]
theorem seen_some (l : List Nat) (n : Nat) : (valV (seenK l) (Sum.inl (n : Int))).isSome = decide (n ∈ l) := by rw [← valV_any, seen_any]
theorem seen_put {l : List Nat} {n : Nat} (h : ¬ n ∈ l) : putK (seenK l) (Sum.inl (n : Int)) (.bl true) = seenK (l ++ [n]) := by
  have e : valV (seenK l) (Sum.inl (n : Int)) = none := by
    cases q : valV (seenK l) (Sum.inl (n : Int)) with
    | none => rfl
    | some v =>
      have := seen_some l n
      rw [q, decide_eq_false h] at this
      cases this
  rw [putK_new _ e]
  unfold seenK
  rw [List.map_append]
  rfl
end Od
set_option Elab.async false
set_option linter.all false
set_option maxRecDepth 100000
set_option maxHeartbeats 4000000
namespace Od
open PySem PySem.Spec PyProof.Rows L2
section
variable {P : Program} {w : World} {K : PySem.W.Frag} {mg : Str → Option Value} {base : Heap}
def spCount (C : Addr) : Sp := fun vs H Q _ => ∃ (p : Addr) (m : Mir.MPool), vs = [.ref p] ∧ PoolAt C H p m ∧ Mir.PoolOk m ∧ ∀ H', Same H H' → Q (.int (Mir.countM m : Nat)) H'
theorem scCount : FnScope ["pool", "interests", "orders", "field", "before", "place"] ["pool"] (defScope s_count_combinations) := ⟨rfl, rfl, rfl, by decide +kernel, rfl, by decide +kernel, by decide +kernel⟩
theorem range_take {α : Type} (g : Nat → α) (n i : Nat) (h : i < n) : (((List.range n).map g).take (i + 1)) = ((List.range n).map g).take i ++ [g i] := take_snoc (by rw [List.getElem?_map, List.getElem?_range h]; rfl)
theorem prodN_pos {k : Nat} : 0 < Mir.prodN ((List.range k).map fun i => i + 1) := by
  unfold Mir.prodN
  have : ∀ (l : List Nat) (a : Nat), 0 < a → (∀ x ∈ l, 0 < x) → 0 < l.foldl (fun a b => a * b) a := by
    intro l
    induction l with
    | nil => intro a h _; exact h
    | cons x l ih => intro a h hx; exact ih _ (Nat.mul_pos h (hx x List.mem_cons_self)) fun y hy => hx y (List.mem_cons_of_mem _ hy)
  refine this _ _ (by decide) fun x hx => ?_
  obtain ⟨i, _, rfl⟩ := List.mem_map.mp hx
  omega
theorem prodN_fact_le : ∀ {k : Nat}, 1 ≤ k → k ≤ 4 → Mir.prodN ((List.range k).map fun i => i + 1) ≤ 24
  | 1, _, _ => by decide
  | 2, _, _ => by decide
  | 3, _, _ => by decide
  | 4, _, _ => by decide
theorem tyes {σ : L2.St} {H : Hp} {f g : Hp → Prop} (h : f H) : tYes σ H (fun b H3 => if b = true then f H3 else g H3) := by
  show (if true = true then f H else g H)
  rw [if_pos rfl]
  exact h
theorem call_lenK {X : Cx} {K : PySem.W.Frag} (h : X.K = K) : CallR X (.builtin "len") (fun xs H Q => ∃ p ys, xs = [.ref p] ∧ (SqL K H p ys ∨ SqT K H p ys) ∧ Q (.int ys.length) H) := by
  subst h
  exact call_len_seq
theorem ok_count {f C fP : Addr} {fd fdP : FuncData} (F : Fun K "count_combinations" "count_combinations" s_count_combinations f fd) (T : TxtPool K C) (FP : Fun K "product" "product" s_product fP fdP) (mgP : mg "product" = some (.ref fP)) (bP : Binds K fdP ["numbers"] [])
    (gl : mg "len" = none) (gr : mg "range" = none) : FnOk P w K mg base CX0 2 f fd ["pool"] (spCount C) := by
  have G : FnOk P w K mg base CX0 1 fP fdP ["numbers"] (spProd K) := ok_prod FP
  refine F.ok scCount (fun vs H Q E h => ?_) (fun cdv A outer s H vs Q E hr h => ?_)
  · obtain ⟨p, m, rfl, _⟩ := h
    rfl
  · obtain ⟨p, m, rfl, hp, ok, k⟩ := h
    obtain ⟨dx, l, as, n, kd, h1, h2, h3, h4, h5⟩ := hp.ex
    refine ⟨_, pss_cons (ps_if (pt_cmpR op_eq (pe_fld (pv 0) rfl) pe_str (nomark _))
        (pss_one (ps_ret (pe_call G hr rfl mgP FP.kp bP .nil pass0 (pa_cons (pe_lc (own := [("field", 3)]) rfl scCount.nd (pi_list (pe_fld (pv 0) rfl)) (show BlkOk ["pool", "interests", "orders", "field", "before", "place"] (defScope s_count_combinations) _ _ from blkOk_by (by decide +kernel)) (fun _ _ _ _ _ => pg_name (i := 3) scCount.nd rfl (Or.inl rfl)) (fun _ _ _ _ _ => pts_nil) (fun _ _ _ _ _ => pe_callB (call_lenK (K := K) rfl) (by rfl) gl PySem.boot_len (pa_cons (pv 3) pa_nil))) pa_nil)))) pss_nil)
      (pss_cons (ps_set (i := 1) scCount.nd rfl (Or.inr rfl) (pe_callB call_len_seq (by rfl) gl PySem.boot_len (pa_cons (pe_ix ix_list (pe_fld (pv 0) rfl) pe_int (fun _ _ => rfl)) pa_nil)))
      (pss_cons (ps_if (pt_cmpR op_eq (pe_fld (pv 0) rfl) pe_str (nomark _)) (pss_one (ps_ret (pv 1))) pss_nil)
      (pss_cons (ps_set (i := 2) scCount.nd rfl (Or.inl rfl) (pe_call G hr rfl mgP FP.kp bP .nil pass0 (pa_cons (pe_lc (own := [("before", 4)]) rfl scCount.nd (pi_range1 rfl gr (pa_cons (pe_fld (pv 0) rfl) pa_nil)) (show BlkOk ["pool", "interests", "orders", "field", "before", "place"] (defScope s_count_combinations) _ _ from blkOk_by (by decide +kernel)) (fun _ _ _ _ _ => pg_name (i := 4) scCount.nd rfl (Or.inl rfl)) (fun _ _ _ _ _ => pts_nil) (fun _ _ _ _ _ => pe_op op_sub (pv 1) (pv 4))) pa_nil)))
      (pss_cons (ps_if (pt_cmpR op_eq (pe_fld (pv 0) rfl) pe_str (nomark _)) (pss_one (ps_ret (pv 2))) pss_nil)
      (pss_one (ps_ret (pe_op op_fdiv (pv 2) (pe_call G hr rfl mgP FP.kp bP .nil pass0 (pa_cons (pe_lc (own := [("place", 5)]) rfl scCount.nd (pi_range1 rfl gr (pa_cons (pe_fld (pv 0) rfl) pa_nil)) (show BlkOk ["pool", "interests", "orders", "field", "before", "place"] (defScope s_count_combinations) _ _ from blkOk_by (by decide +kernel)) (fun _ _ _ _ _ => pg_name (i := 5) scCount.nd rfl (Or.inl rfl)) (fun _ _ _ _ _ => pts_nil) (fun _ _ _ _ _ => pe_op op_add (pv 5) pe_int)) pa_nil))))))))), ?_⟩
    refine ⟨_, rfl, p, C, dx, _, _, rfl, h1, T.cl, T.nK, pf_kind _ _ _ _, rfl, _, rfl, ?_⟩
    rw [str_dec, h3]
    refine ite2 (fun e1 => ?_) (fun e1 => ?_)
    · have e1 := of_decide_eq_true e1
      refine ⟨_, rfl, p, C, dx, _, _, rfl, h1, T.cl, T.nF, pf_fields _ _ _ _, l, rfl, ⟨_, SqL.of h4⟩, fun D hD => ?_⟩
      have s0 : Same H (upd H D (.lst [])) := fun b o e => by rw [upd_ne (ne_of_none e hD)]; exact e
      refine lc_list (K := K) (a := l) (xs := as.map V.ref) (fun i H' => Same H H' ∧ H' D = some (.lst (vN ((m.fields.map List.length).take i)))) ⟨s0, upd_same⟩ (fun i H' _ ⟨e, _⟩ => SqL.of (e _ _ h4)) ?_ ?_
      · rintro i x H' hi ⟨s1, hD'⟩
        rw [List.getElem?_map] at hi
        cases ea : as[i]? with
        | none => rw [ea] at hi; cases hi
        | some c =>
          rw [ea] at hi
          cases hi
          obtain ⟨fl, hf, hc⟩ := h5.at_ i c ea
          refine ⟨rfl, ?_⟩
          refine tyes ?_
          refine ⟨_, rfl, c, vN fl, rfl, .inl (SqL.of (s1 _ _ hc)), _, hD', ?_, ?_, ?_⟩
          · rw [vN_len, List.length_take, List.length_map]
            have : m.fields.length ≤ 6 := by rw [ok.legs e1]; exact ok.size.2
            exact small1000 (by omega)
          · exact fun b o e => by rw [upd_ne (ne_of_none e hD)]; exact s1 b o e
          · rw [upd_same, take_snoc (x := fl.length) (by rw [List.getElem?_map, hf]; rfl)]
            unfold vN
            rw [List.map_append, List.length_map]
            rfl
      · rintro H' ⟨s1, hD'⟩
        rw [List.length_map, List.take_of_length_le (by rw [List.length_map, h5.len]; exact Nat.le_refl _)] at hD'
        refine ⟨D, _, rfl, SqL.of hD', fun x hx => ?_, ?_⟩
        · obtain ⟨g, hg, rfl⟩ := List.mem_map.mp hx
          have := (ok.each g hg).len
          omega
        · have := k H' s1
          unfold Mir.countM at this
          rw [if_pos e1] at this
          exact this
    · have e1 : ¬ m.kind = Mir.kw "legs" := fun z => e1 (decide_eq_true z)
      obtain ⟨fl, hfl, hsz, hs4⟩ := ok.one e1
      have hcnt : (m.fields.headD []) = fl := by rw [hfl]; rfl
      obtain ⟨c, hc, hcc⟩ : ∃ c, as[0]? = some c ∧ H c = some (.lst (vN fl)) := by
        have hl : as.length = 1 := by rw [h5.len, hfl]; rfl
        cases ea : as[0]? with
        | none => rw [List.getElem?_eq_none_iff] at ea; omega
        | some c =>
          obtain ⟨g, hg, hcc⟩ := h5.at_ 0 c ea
          rw [hfl] at hg
          cases hg
          exact ⟨c, rfl, hcc⟩
      have hlen24 : fl.length ≤ 24 := (ok.each fl (by rw [hfl]; simp)).len
      refine ⟨_, rfl, p, C, dx, _, _, rfl, h1, T.cl, T.nF, pf_fields _ _ _ _, l, _, _, _, rfl, rfl, SqL.of h4, atI_nat (j := 0) (by rw [List.getElem?_map, hc]; rfl), c, vN fl, rfl, .inl (SqL.of hcc), ?_⟩
      refine ⟨_, rfl, p, C, dx, _, _, rfl, h1, T.cl, T.nK, pf_kind _ _ _ _, rfl, _, rfl, ?_⟩
      rw [str_dec, h3, vN_len]
      refine ite2 (fun e2 => ?_) (fun e2 => ?_)
      · have e2 := of_decide_eq_true e2
        have := k H (Same.refl H)
        unfold Mir.countM at this
        rw [if_neg e1, if_pos e2, hcnt] at this
        exact ⟨_, rfl, this⟩
      · have e2 : ¬ m.kind = Mir.kw "place" := fun z => e2 (decide_eq_true z)
        refine ⟨_, rfl, p, C, dx, _, _, rfl, h1, T.cl, T.nS, pf_size _ _ _ _, (m.size : Int), rfl, by omega, by omega, fun D hD => ?_⟩
        have s0 : Same H (upd H D (.lst [])) := fun b o e => by rw [upd_ne (ne_of_none e hD)]; exact e
        rw [Int.toNat_natCast]
        refine lc_range (lo := 0) (n := m.size) (fun i H' => Same H H' ∧ H' D = some (.lst (vN (((List.range m.size).map fun i => fl.length - i).take i)))) ⟨s0, upd_same⟩ ?_ ?_
        · rintro i H' hi ⟨s1, hD'⟩
          refine ⟨rfl, tyes ?_⟩
          refine ⟨_, rfl, _, rfl, _, _, rfl, rfl, _, hD', ?_, ?_, ?_⟩
          · rw [vN_len, List.length_take, List.length_map, List.length_range]
            exact small1000 (by omega)
          · exact fun b o e => by rw [upd_ne (ne_of_none e hD)]; exact s1 b o e
          · rw [upd_same, range_take (fun i => fl.length - i) m.size i hi]
            unfold vN
            rw [List.map_append]
            show some (HO.lst (_ ++ [V.int ((fl.length : Int) - (0 + (i : Int)))])) = some (HO.lst (_ ++ [V.int ((fl.length - i : Nat) : Int)]))
            have : (fl.length : Int) - (0 + (i : Int)) = ((fl.length - i : Nat) : Int) := by omega
            rw [this]
        · rintro H' ⟨s1, hD'⟩
          rw [List.take_of_length_le (by rw [List.length_map, List.length_range]; exact Nat.le_refl _)] at hD'
          refine ⟨D, _, rfl, SqL.of hD', fun x hx => ?_, ?_⟩
          · obtain ⟨g, hg, rfl⟩ := List.mem_map.mp hx
            omega
          · refine ⟨_, rfl, p, C, dx, _, _, rfl, s1 _ _ h1, T.cl, T.nK, pf_kind _ _ _ _, rfl, _, rfl, ?_⟩
            rw [str_dec, h3]
            refine ite2 (fun e3 => ?_) (fun e3 => ?_)
            · have e3 := of_decide_eq_true e3
              have := k H' s1
              unfold Mir.countM at this
              rw [if_neg e1, if_neg e2, if_pos e3, hcnt] at this
              exact ⟨_, rfl, this⟩
            · have e3 : ¬ m.kind = Mir.kw "order" := fun z => e3 (decide_eq_true z)
              refine ⟨_, rfl, _, rfl, p, C, dx, _, _, rfl, s1 _ _ h1, T.cl, T.nS, pf_size _ _ _ _, (m.size : Int), rfl, by omega, by omega, fun D2 hD2 => ?_⟩
              have s2 : Same H' (upd H' D2 (.lst [])) := fun b o e => by rw [upd_ne (ne_of_none e hD2)]; exact e
              rw [Int.toNat_natCast]
              refine lc_range (lo := 0) (n := m.size) (fun i H'' => Same H' H'' ∧ H'' D2 = some (.lst (vN (((List.range m.size).map fun i => i + 1).take i)))) ⟨s2, upd_same⟩ ?_ ?_
              · rintro i H'' hi ⟨s3, hD3⟩
                refine ⟨rfl, tyes ?_⟩
                refine ⟨_, rfl, _, _, rfl, rfl, _, hD3, ?_, ?_, ?_⟩
                · rw [vN_len, List.length_take, List.length_map, List.length_range]
                  exact small1000 (by omega)
                · exact fun b o e => by rw [upd_ne (ne_of_none e hD2)]; exact s3 b o e
                · rw [upd_same, range_take (fun i => i + 1) m.size i hi]
                  unfold vN
                  rw [List.map_append]
                  show some (HO.lst (_ ++ [V.int (0 + (i : Int) + 1)])) = some (HO.lst (_ ++ [V.int ((i + 1 : Nat) : Int)]))
                  have : (0 + (i : Int) + 1) = ((i + 1 : Nat) : Int) := by omega
                  rw [this]
              · rintro H'' ⟨s3, hD3⟩
                rw [List.take_of_length_le (by rw [List.length_map, List.length_range]; exact Nat.le_refl _)] at hD3
                refine ⟨D2, _, rfl, SqL.of hD3, fun x hx => ?_, ?_⟩
                · obtain ⟨g, hg, rfl⟩ := List.mem_map.mp hx
                  have := List.mem_range.mp hg
                  omega
                · have hp0 := prodN_pos (k := m.size)
                  have hp1 := prodN_fact_le ok.size.1 hs4
                  refine ⟨_, _, rfl, rfl, ⟨by omega, by omega⟩, ?_⟩
                  have := k H'' (s1.trans s3)
                  unfold Mir.countM at this
                  rw [if_neg e1, if_neg e2, if_neg e3, hcnt, Int.natCast_ediv] at this
                  exact this
end
end Od
set_option Elab.async false
set_option linter.all false
set_option maxRecDepth 100000
set_option maxHeartbeats 4000000
namespace Od
open PySem PySem.Spec PyProof.Rows L2
def pairsN : List Nat → Mir.Mon
  | a :: b :: r => (a, b) :: pairsN r
  | _ => []
theorem pairsN_len : ∀ l : List Nat, (pairsN l).length = l.length / 2
  | [] => rfl
  | [_] => by simp [pairsN]
  | a :: b :: r => by
    show (pairsN r).length + 1 = (r.length + 1 + 1) / 2
    rw [pairsN_len r]
    omega
theorem pairsN_get : ∀ (l : List Nat) (i : Nat), 2 * i + 1 < l.length → ∃ x y, l[2 * i]? = some x ∧ l[2 * i + 1]? = some y ∧ (pairsN l)[i]? = some (x, y)
  | [], i, h => by simp at h
  | [_], i, h => by simp at h
  | a :: b :: r, 0, _ => ⟨a, b, rfl, rfl, rfl⟩
  | a :: b :: r, i + 1, h => by
    obtain ⟨x, y, h1, h2, h3⟩ := pairsN_get r i (by simp only [List.length_cons] at h; omega)
    exact ⟨x, y, h1, h2, h3⟩
theorem tot_snoc (l : Mir.Mon) (x c : Nat) : Mir.totM (l ++ [(x, c)]) = Mir.totM l + c := by
  unfold Mir.totM
  rw [List.map_append, List.sum_append]
  simp
theorem size2 (n : Int) (h : 0 ≤ n) (he : n % 2 = 0) : Builtin.Range.rangeSize 0 n 2 = n / 2 := by
  unfold Builtin.Range.rangeSize
  simp only [show (2 : Int) > 0 by decide, if_true]
  split <;> omega
theorem size3 (n : Int) (h : 2 ≤ n) (he : (n - 2) % 3 = 0) : Builtin.Range.rangeSize 2 n 3 = (n - 2) / 3 := by
  unfold Builtin.Range.rangeSize
  simp only [show (3 : Int) > 0 by decide, if_true]
  split <;> omega
theorem rg2 {n : Nat} (h : n ≤ 100000) (he : n % 2 = 0) : RgC 0 (n : Int) 2 (n / 2) := by
  have e := size2 (n : Int) (by omega) (by omega)
  refine ⟨by decide, by decide, ?_, ?_⟩
  · unfold Builtin.Range.small
    rw [e]
    unfold Builtin.Range.rangeFitsLong
    simp only [Bool.and_eq_true, Bool.or_eq_true, decide_eq_true_eq, beq_iff_eq, show (2 : Int) > 0 by decide, if_true]
    omega
  · rw [e]; omega
theorem rg3 {n : Nat} (h : n ≤ 100000) (h2 : 2 ≤ n) (he : (n - 2) % 3 = 0) : RgC 2 (n : Int) 3 ((n - 2) / 3) := by
  have e := size3 (n : Int) (by omega) (by omega)
  refine ⟨by decide, by decide, ?_, ?_⟩
  · unfold Builtin.Range.small
    rw [e]
    unfold Builtin.Range.rangeFitsLong
    simp only [Bool.and_eq_true, Bool.or_eq_true, decide_eq_true_eq, beq_iff_eq, show (3 : Int) > 0 by decide, if_true]
    omega
  · rw [e]; omega
section
variable {P : Program} {w : World} {K : PySem.W.Frag} {mg : Str → Option Value} {base : Heap}
def spRight (K : PySem.W.Frag) (C : Addr) : Sp := fun vs H Q _ => ∃ (a p : Addr) (mny : List Nat) (m : Mir.MPool), vs = [.ref a, .ref p] ∧ SqL K H a (vN mny) ∧ mny.length ≤ 16000 ∧ mny.length % 2 = 0 ∧ PoolAt C H p m ∧ Mir.PoolOk m ∧
  ∀ H', Same H H' → Q (.bl (Mir.monOk (Mir.countM m) (-1) (pairsN mny) && decide (Mir.totM (pairsN mny) ≤ 281474976710655))) H'
theorem scRight : FnScope ["money", "pool", "combinations", "number_before", "total", "at", "number", "cents"] ["money", "pool"] (defScope s_is_money_right) := ⟨rfl, rfl, rfl, by decide +kernel, rfl, by decide +kernel, by decide +kernel⟩
theorem ok_right {f C fC fP : Addr} {fd fdC fdP : FuncData} (F : Fun K "is_money_right" "is_money_right" s_is_money_right f fd) (T : TxtPool K C) (FC : Fun K "count_combinations" "count_combinations" s_count_combinations fC fdC) (mgC : mg "count_combinations" = some (.ref fC)) (bC : Binds K fdC ["pool"] [])
    (FP : Fun K "product" "product" s_product fP fdP) (mgP : mg "product" = some (.ref fP)) (bP : Binds K fdP ["numbers"] [])
    (gl : mg "len" = none) (gr : mg "range" = none) (gP : GV mg "MOST_PAIRS" (.int 262144)) (gC : GV mg "MOST_CENTS" (.int 281474976710655)) : FnOk P w K mg base CX0 3 f fd ["money", "pool"] (spRight K C) := by
  have G : FnOk P w K mg base CX0 2 fC fdC ["pool"] (spCount C) := ok_count FC T FP mgP bP gl gr
  refine F.ok scRight (fun vs H Q E h => ?_) (fun cdv A outer s H vs Q E hr h => ?_)
  · obtain ⟨a, p, mny, m, rfl, _⟩ := h
    rfl
  · obtain ⟨a, p, mny, m, rfl, hM, hl, he, hp, ok, k⟩ := h
    refine ⟨_, pss_cons (ps_if (pt_cmpR op_gt (pe_op op_fdiv (pe_callB call_len_seq (by rfl) gl PySem.boot_len (pa_cons (pv 0) pa_nil)) pe_int) (pe_gl gP) (nomark _)) (pss_one (ps_ret pe_bl)) pss_nil)
      (pss_cons (ps_set (i := 2) scRight.nd rfl (Or.inl rfl) (pe_call G hr rfl mgC FC.kp bC .nil pass0 (pa_cons (pv 1) pa_nil)))
      (pss_cons (ps_set (i := 3) scRight.nd rfl (Or.inl rfl) (pe_un un_neg pe_int))
      (pss_cons (ps_set (i := 4) scRight.nd rfl (Or.inl rfl) pe_int)
      (pss_cons (ps_for PassesOwn.never rfl (pi_range3 rfl gr (pa_cons pe_int (pa_cons (pe_callB call_len_seq (by rfl) gl PySem.boot_len (pa_cons (pv 0) pa_nil)) (pa_cons pe_int pa_nil)))) (pg_name (i := 5) scRight.nd rfl (Or.inl rfl))
        (pss_cons (ps_set (i := 6) scRight.nd rfl (Or.inl rfl) (pe_ix ix_list (pv 0) (pv 5) (fun _ _ => rfl)))
        (pss_cons (ps_set (i := 7) scRight.nd rfl (Or.inl rfl) (pe_ix ix_list (pv 0) (pe_op op_add (pv 5) pe_int) (fun _ _ => rfl)))
        (pss_cons (ps_if (pw_or (pt_cmpR op_le (pv 6) (pv 3) (nomark _)) (pw_or (pt_cmpR op_ge (pv 6) (pv 2) (nomark _)) (pw_or1 (pt_cmpR op_eq (pv 7) pe_int (nomark _))))).pt (pss_one (ps_ret pe_bl)) pss_nil)
        (pss_cons (ps_set (i := 3) scRight.nd rfl (Or.inl rfl) (pv 6))
        (pss_one (ps_set (i := 4) scRight.nd rfl (Or.inl rfl) (pe_op op_add (pv 4) (pv 7)))))))))
      (pss_one (ps_ret (pe_cmpR op_le (pv 4) (pe_gl gC) (nomark _)))))))), ?_⟩
    refine ⟨_, rfl, a, vN mny, rfl, .inl hM, _, _, rfl, rfl, ⟨by decide, by decide⟩, _, _, rfl, rfl, _, rfl, ?_⟩
    have hno : ¬ decide ((262144 : Int) < ((vN mny).length : Int) / 2) = true := by
      rw [vN_len]
      exact fun z => by have := of_decide_eq_true z; omega
    refine ite2 (fun e1 => absurd e1 hno) (fun _ => ?_)
    refine ⟨_, rfl, p, m, rfl, hp, ok, fun H1 s1 => ?_⟩
    refine ⟨_, rfl, ?_⟩
    refine ⟨_, rfl, a, vN mny, rfl, .inl (s1.seq hM), 0, (mny.length : Nat), 2, mny.length / 2, ?_, rg2 (by omega) he, ?_⟩
    · rw [vN_len]
    refine for_rangeC (lo := 0) (c := 2) (n := mny.length / 2)
      (fun i σ H' => ∃ (b : Int) (v5 v6 v7 : Option V), σ = [some (.ref a), some (.ref p), some (.int (Mir.countM m : Nat)), some (.int b), some (.int (Mir.totM ((pairsN mny).take i) : Nat)), v5, v6, v7] ∧ Same H H' ∧
        Mir.monOk (Mir.countM m) (-1) (pairsN mny) = Mir.monOk (Mir.countM m) b ((pairsN mny).drop i))
      ⟨-1, none, none, none, rfl, s1, rfl⟩ ?_ ?_
    · rintro i σ H' hi ⟨b, v5, v6, v7, rfl, s2, hmon⟩
      obtain ⟨x, c, hx, hc, hpair⟩ := pairsN_get mny i (by omega)
      have ei : (0 : Int) + (i : Nat) * 2 = ((2 * i : Nat) : Int) := by omega
      have ei1 : (0 : Int) + (i : Nat) * 2 + 1 = ((2 * i + 1 : Nat) : Int) := by omega
      have gx : (vN mny)[2 * i]? = some (.int (x : Int)) := by unfold vN; rw [List.getElem?_map, hx]; rfl
      have gc : (vN mny)[2 * i + 1]? = some (.int (c : Int)) := by unfold vN; rw [List.getElem?_map, hc]; rfl
      refine ⟨_, rfl, _, rfl, a, _, _, _, rfl, rfl, s2.seq hM, at_of ei gx, ?_⟩
      refine ⟨_, rfl, _, rfl, _, _, rfl, rfl, a, _, _, _, rfl, rfl, s2.seq hM, at_of ei1 gc, ?_⟩
      have hcons := drop_cons hpair
      have hstep : Mir.monOk (Mir.countM m) b ((pairsN mny).drop i) = (!(decide ((x : Int) ≤ b) || (decide (Mir.countM m ≤ x) || decide (c = 0))) && Mir.monOk (Mir.countM m) (x : Int) ((pairsN mny).drop (i + 1))) := by
        rw [hcons]; rfl
      have fin : (decide ((x : Int) ≤ b) || (decide (Mir.countM m ≤ x) || decide (c = 0))) = true → Q (.bl false) H' := fun z => by
        have := k H' s2
        rw [hmon, hstep, z] at this
        exact this
      refine ⟨_, rfl, _, rfl, _, _, rfl, rfl, _, rfl, ?_⟩
      refine ite2 (fun e1 => iteT (fin (by rw [e1]; rfl))) (fun e1 => ?_)
      refine ⟨_, rfl, _, rfl, _, _, rfl, rfl, _, rfl, ?_⟩
      refine ite2 (fun e2 => iteT (fin (by
        have : decide (Mir.countM m ≤ x) = true := decide_eq_true (by have := of_decide_eq_true e2; omega)
        rw [this]; simp))) (fun e2 => ?_)
      refine ⟨_, rfl, rfl, _, rfl, ?_⟩
      refine ite2 (fun e3 => fin (by
        have : decide (c = 0) = true := decide_eq_true (by rw [int_dec] at e3; have := of_decide_eq_true e3; omega)
        rw [this]; simp)) (fun e3 => ?_)
      refine ⟨_, rfl, _, rfl, _, rfl, _, _, rfl, rfl, ⟨(x : Int), some (.int ((0 : Int) + (i : Nat) * 2)), some (.int (x : Int)), some (.int (c : Int)), ?_, s2, ?_⟩⟩
      · rw [take_snoc hpair, tot_snoc, Int.natCast_add]
        rfl
      · rw [hmon, hstep]
        have d1 : decide ((x : Int) ≤ b) = false := by simpa using e1
        have d2 : decide (Mir.countM m ≤ x) = false := decide_eq_false fun z => e2 (decide_eq_true (by omega))
        have d3 : decide (c = 0) = false := decide_eq_false fun z => e3 (by rw [int_dec]; exact decide_eq_true (by omega))
        rw [d1, d2, d3]
        rfl
    · rintro σ H' ⟨b, v5, v6, v7, rfl, s2, hmon⟩
      have hall : (pairsN mny).take (mny.length / 2) = pairsN mny := List.take_of_length_le (by rw [pairsN_len]; exact Nat.le_refl _)
      have hnil : (pairsN mny).drop (mny.length / 2) = [] := List.drop_of_length_le (by rw [pairsN_len]; exact Nat.le_refl _)
      rw [hall]
      rw [hnil] at hmon
      refine ⟨_, rfl, _, _, rfl, rfl, ?_⟩
      have := k H' s2
      rw [hmon] at this
      have e : decide (((Mir.totM (pairsN mny) : Nat) : Int) ≤ 281474976710655) = (Mir.monOk (Mir.countM m) b [] && decide (Mir.totM (pairsN mny) ≤ 281474976710655)) := by
        show _ = (true && _)
        rw [Bool.true_and]
        exact decide_eq_decide.mpr ⟨fun z => by omega, fun z => by omega⟩
      show Q (.bl (decide (((Mir.totM (pairsN mny) : Nat) : Int) ≤ 281474976710655))) H'
      rw [e]
      exact this
end
end Od
set_option Elab.async false
set_option linter.all false
set_option maxRecDepth 100000
set_option maxHeartbeats 4000000
namespace Od
open PySem PySem.Spec PyProof.Rows L2
section
variable {P : Program} {w : World} {K : PySem.W.Frag} {mg : Str → Option Value} {base : Heap}
theorem okX {C0 : Addr} {x qual : Str} {st : Stmt} {f : Addr} {fd : FuncData} {N ps : List Str} {k : Nat} {sp : Sp} (F : Fun K x qual st f fd) (S : FnScope N ps (defScope st)) (len : ∀ vs H Q E, sp vs H Q E → vs.length = ps.length)
    (hb : ∀ (cdv : Value) (A : Around) (outer : List Env) (s : Shared) (H : Hp) (vs : List V) (Q : VK) (E : XK), Room k (A.deeper (envOfC qual (defScope st) s.heap.objs.size f cdv)) → sp vs H Q E →
      ∃ t, PSs (cxOf (CXN P w C0) P w K mg base N qual (defScope st) f cdv A outer s H E) (defBody st) t ∧ t { nx := fun _ H' => Q .non H', rt := Q } (start N vs) H) : FnOk P w K mg base (CXN P w C0) (k + 1) f fd ps sp := by
  obtain ⟨oc, od, kV, doc, pm, an, cdv, ct, osl, rfl, lk, hcd⟩ := F.ex
  exact fn_of lk hcd S len fun A outer s H vs Q E hr hsp => hb cdv A outer s H vs Q E hr hsp
theorem rais {C0 : Addr} {N : List Str} {qual : Str} {scope : Scope} {f : Addr} {cd : Value} {A : Around} {outer : List Env} {s : Shared} {H : Hp} {E : XK} :
    Raises (cxOf (CXN P w C0) P w K mg base N qual scope f cd A outer s H E) C0 E := fun pins σ H1 s1 h' ea I hx hE => raise_leaves I hx hE
theorem pas {C0 : Addr} {N : List Str} {qual : Str} {scope : Scope} {f : Addr} {cd : Value} {A : Around} {outer : List Env} {s : Shared} {H : Hp} {E : XK} :
    Passes (CXN P w C0) (cxOf (CXN P w C0) P w K mg base N qual scope f cd A outer s H E) E := pass_leaves fun _ _ _ h => h
end
section
variable {X : Cx} {CX : CXT} {k : Nat} {f : Addr} {fd : FuncData} {ps : List Str} {sp : Sp} {dvs : List V} {ds : List Value} {E : XK} {x : Str} {p pos : Pos} {e : Expr} {es : List Expr} {t : TA}
def tCallV (i : Nat) (f : Addr) (u : TE) : TE := fun σ H Q => σ[i]? = some (some (.ref f)) ∧ u σ H Q
theorem pe_callV (i : Nat) (F : FnOk X.prog X.w X.K X.mg X.base CX k f fd ps sp) (hr : Room k X.A) (hk : PySem.W.keepIn X.K (.ref f) = true) (hb : Binds X.K fd ps ds) (hd : Vals dvs ds) (hx : Passes CX X E)
    (ha : PA X (e :: es) t) (hN : X.N[i]? = some x := by rfl) (hv : Vis X.env.scope x := by first | exact Or.inl rfl | exact Or.inr (Or.inl rfl) | exact Or.inr (Or.inr rfl)) (hdb : (x == ("__debug__" : Str)) = false := by decide) (hcd : (x == ("__classdict__" : Str)) = false := by decide)
    (he : starEach (e :: es) X.env = (false, eval e X.env) :: starEach es X.env := by rfl) (hpl : (backTo pos (starEach es X.env)).any (·.1) = false := by rfl) :
    PE X (.Call (.Name x p) (e :: es) [] pos) (tCallV i f (tCall sp dvs E t)) := by
  intro pins s σ H Q I h
  obtain ⟨h0, h⟩ := h
  refine wpAny_Call_Name_kw ?_
  have hvar := pe_var (X := X) (i := i) (x := x) (pos := p) hN hv hdb hcd pins s σ H (fun v H' => v = .ref f ∧ H' = H) I ⟨_, h0, rfl, rfl⟩
  refine thn hvar fun u s1 ⟨v, H1, I1, r1, e1, e2⟩ => ?_
  subst e1
  subst e2
  obtain rfl : u = Value.ref f := r1
  refine PySem.W.callWith_K (h₀ := X.base) I1.ok.mod.kin hk (thn (ha pos pins s1 σ H1 _ I1 h) fun us s2 ⟨vs, H2, I2, r, q⟩ => ⟨I2.kIn, ?_⟩) he hpl
  exact run_fn F hr hb hd hx I2 r q
end
theorem pre_take (ns : List Int) : ∀ k, k ≤ ns.length → preSum (fun i => (ns[i]?).getD 0) k = (ns.take k).sum
  | 0, _ => rfl
  | k + 1, h => by
    have e : ns[k]? = some ns[k] := List.getElem?_eq_getElem (by omega)
    rw [sum_take e]
    show preSum (fun i => (ns[i]?).getD 0) k + (ns[k]?).getD 0 = _
    rw [pre_take ns k (by omega), e]
    rfl
section
variable {prog : Program} {w : World} {A : Around} {E : Value → Shared → Prop} {s : Shared} {T : String} {r d : Addr} {n : Nat} {P : Nat → Value → Prop} {OK : Heap → Prop} {Q : Value → Shared → Prop}
theorem sum_view (K : PySem.W.KdlSrc prog w T r d n P OK) (hh : A.handled = none) (hok : OK s.heap) (val : Nat → Int) (hval : ∀ (i : Nat) (v : Value), P i v → ∃ t : Tok, v = Value.int (val i) t)
    (hQ : ∀ (h' : Heap) (tk : Nat) (t' : Tok), (∀ b o, s.heap.get? b = some o → h'.get? b = some o) → Q (.int (preSum val n) t') { s with heap := h', toks := tk }) :
    wpAny (model prog w) A (call (.builtin "sum") [.ref r]) Q E s := by
  refine call_sum_walkAnyS ?_
  obtain ⟨oI, St, hit, W, st⟩ := K.iter A.in1 s hh hok
  refine hit _ _ ⟨s.heap.objs.size, _, _, _, n, P, _, val, rfl, W.toS, st, fun b hb => ?_, hval, fun s' t' hm => ?_⟩
  · show b < (s.heap.push oI).objs.size
    rw [Heap.size_push]
    rcases List.mem_cons.mp hb with e | hb
    · rw [e]
      exact Nat.lt_succ_self _
    · rw [List.mem_singleton.mp hb]
      exact Nat.lt_succ_of_lt (K.there _ hok).2
  · have hk : ∀ b o, s.heap.get? b = some o → s'.heap.get? b = some o := fun b o e => by
      refine hm.heap b o (fun hI => ?_) (Heap.get?_push_of_some _ e)
      have e1 := Heap.lt_size e
      rw [List.mem_singleton.mp hI] at e1
      exact absurd e1 (Nat.lt_irrefl _)
    rw [Moved.eq_with hm]
    exact hQ s'.heap s'.toks t' hk
end
section
variable {X : Cx} {e : Expr} {td : TE} {p apos cpos pos : Pos}
def tSumV (td : TE) : TE := fun σ H Q => td σ H fun x H1 => ∃ (d : Addr) (kvs : List (Key × V)) (ns : List Int), x = .ref d ∧ H1 d = some (.dK kvs) ∧ kvs.map (·.2) = ns.map V.int ∧ Q (.int ns.sum) H1
theorem pe_sumV (hc : X.calm = true) (hg : Gl X "sum") (hm : X.mg "sum" = none) (he : PE X e td)
    (hs : starEach [Expr.Call (.Attribute e "values" apos) [] [] cpos] X.env = [(false, eval (.Call (.Attribute e "values" apos) [] [] cpos) X.env)] := by rfl)
    (hbase : attributeBase e "values" X.env (eval e X.env) = eval e X.env := by rfl) (hline : (apos.endLine == cpos.line) = true := by rfl) :
    PE X (.Call (.Name "sum" p) [.Call (.Attribute e "values" apos) [] [] cpos] [] pos) (tSumV td) := by
  intro pins s σ H Q I h
  refine wpAny_Call_Name_kw (ld_blt I hg hm PyProof.Rows.boot_sum ?_)
  refine PyProof.Rows.callWith_builtin1 ?_ hs rfl
  rw [hs]
  show wpAny _ _ (spliced ((false, eval (.Call (.Attribute e "values" apos) [] [] cpos) X.env) :: backTo pos [])) _ _ s
  refine Calls.spliced_cons ?_
  refine wpAny_Call_method (T := "dict") (id := "dict.values") hbase rfl hline F.plainAttrs_dict F.slot_dict_values F.type_dict_values (thn (he pins s σ H _ I h) fun u s1 ⟨x, H1, I1, rx, d, kvs, ns, ex, hd, hns, q⟩ => ?_)
  subst ex
  obtain rfl : u = Value.ref d := rx
  obtain ⟨z, hsm, vs, rel, dd⟩ := dk_rd I1.hok (.inl hd)
  obtain ⟨ep, hat⟩ := dd.dictAt
  refine ⟨dd.typeIs, dd.mapOf.noDict, ?_⟩
  show wpAny _ _ (callWith cpos (.builtin "dict.values") [.ref d] [] []) _ X.xe s1
  refine method_meetsIn F.slot_dict_values F.entry_dict_values rfl (PySem.evalArgs_none ⟨rfl, dd.typeIs, F.args_dict_values_1 _, _, meets_dict_values (mixKind X.prog X.w) d hsm, ⟨vs, dd⟩, ?_⟩)
  refine Calls.spliced_nil ?_
  have hl : kvs.length = vs.length := Paired.length rel
  have hl2 : kvs.length = ns.length := by
    have := congrArg List.length hns
    rw [List.length_map, List.length_map] at this
    exact this
  refine sum_view (PySem.W.kdl_values (knd := mixKind X.prog X.w) (kvs := vs) (ep := ep)) (I1.ok.hd hc) ⟨⟨_, Heap.get?_push_size _ rfl, rfl, rfl⟩, hat.push _⟩ (fun i => (ns[i]?).getD 0) (fun i v hv => ?_) fun h' tk t' hk => ?_
  · obtain ⟨k, hv⟩ := hv
    have hi : i < vs.length := (List.getElem?_eq_some_iff.mp hv).1
    obtain ⟨⟨k', v'⟩, hkv⟩ : ∃ q, kvs[i]? = some q := ⟨kvs[i], List.getElem?_eq_getElem (by omega)⟩
    obtain ⟨u, hu, ru⟩ := kv_get rel hkv
    rw [hv] at hu
    cases hu
    have e1 : (kvs.map (·.2))[i]? = some v' := by rw [List.getElem?_map, hkv]; rfl
    rw [hns, List.getElem?_map] at e1
    cases e2 : ns[i]? with
    | none => rw [e2] at e1; cases e1
    | some z =>
      rw [e2] at e1
      cases e1
      obtain ⟨t, rfl⟩ := ru
      exact ⟨t, rfl⟩
  · refine ⟨.int ns.sum, H1, I1.kept fun b o e => hk b o (Heap.get?_push_of_some _ e), ⟨t', ?_⟩, q⟩
    rw [← hl, hl2, pre_take ns ns.length (Nat.le_refl _), List.take_length]
end
structure TabK (K : PySem.W.Frag) (w : World) (a : Addr) (g : Str → Option V) : Prop where
  ex : ∃ (es : Array DictEntry) (n : Nat), K.lookup a = some ⟨.type "dict", none, .dict es n, #[]⟩ ∧ PySem.W.KeysLit w.params es.toList ∧ (a == sysModules) = false ∧
    ∀ x : Str, match findBy Value.isStrOf es x with
      | none => g x = none
      | some u => ∃ v, g x = some v ∧ RelV v u
section
variable {X : Cx} {a : Addr} {g : Str → Option V}
theorem op_notInTab (T : TabK X.K X.w a g) : OpR X (compareOp .NotIn) (fun x y H Q => ∃ z : Str, x = .str z ∧ y = .ref a ∧ Q (.bl (!(g z).isSome)) H) := by
  intro pins s σ H x y v u Q I rx ry h
  obtain ⟨z, rfl, rfl, q⟩ := h
  obtain ⟨t, rfl⟩ := rx
  obtain rfl : u = Value.ref a := ry
  obtain ⟨es, n, lk, kl, hsm, hf⟩ := T.ex
  have hm := PySem.W.mapOf_K (prog := X.prog) (w := X.w) I.kIn lk kl
  refine wpAny_notIn_of (strKind_is X.prog X.w z t) hsm hm ?_
  have hz := hf z
  cases e : findBy Value.isStrOf es z with
  | none =>
    rw [e] at hz
    exact ⟨.bl true, H, I.tok _, rfl, by rw [show g z = none from hz] at q; exact q⟩
  | some u =>
    rw [e] at hz
    obtain ⟨v, hv, _⟩ := hz
    exact ⟨.bl false, H, I.tok _, rfl, by rw [hv] at q; exact q⟩
theorem ix_tab (T : TabK X.K X.w a g) : IxR X (fun x y H Q => ∃ (z : Str) (v : V), x = .ref a ∧ y = .str z ∧ g z = some v ∧ Q v H) := by
  intro value slice pins s σ H x y v u Q I rx ry h hs
  obtain ⟨z, v', rfl, rfl, hv, q⟩ := h
  obtain rfl : v = Value.ref a := rx
  obtain ⟨t, rfl⟩ := ry
  obtain ⟨es, n, lk, kl, hsm, hf⟩ := T.ex
  have hm := PySem.W.mapOf_K (prog := X.prog) (w := X.w) I.kIn lk kl
  have hz := hf z
  cases e : findBy Value.isStrOf es z with
  | none =>
    rw [e] at hz
    rw [show g z = none from hz] at hv
    cases hv
  | some u =>
    rw [e] at hz
    obtain ⟨v2, hv2, r2⟩ := hz
    rw [hv] at hv2
    cases hv2
    exact tail_any hm.typeIs slot_dict_getitem.lookup (wpAny_getItem_of (strKind_is X.prog X.w z t) hm e ⟨v', H, I.tok _, r2, q⟩) hs
end
end Od
set_option Elab.async false
set_option linter.all false
set_option maxRecDepth 100000
set_option maxHeartbeats 4000000
set_option exponentiation.threshold 10000
namespace Od
open PySem PySem.Spec PyProof.Rows L2
def ctK (f : List Nat) (c : Nat → Nat) : List (Key × V) := f.map fun (h : Nat) => ((Sum.inl (h : Int) : Key), V.int ((c h : Nat) : Int))
theorem inl_eq {a b : Nat} : (Sum.inl (a : Int) : Key) = Sum.inl (b : Int) ↔ a = b := ⟨fun e => by have := Sum.inl.inj e; omega, fun e => by rw [e]⟩
theorem ct_val {c : Nat → Nat} {n : Nat} : ∀ {f : List Nat}, n ∈ f → valV (ctK f c) (Sum.inl (n : Int)) = some (V.int ((c n : Nat) : Int))
  | x :: f, h => by
    by_cases e : x = n
    · subst e
      exact valV_pos (p := ((Sum.inl (x : Int) : Key), V.int ((c x : Nat) : Int))) rfl
    · have e2 : valV (ctK (x :: f) c) (Sum.inl (n : Int)) = valV (ctK f c) (Sum.inl (n : Int)) := valV_neg (p := ((Sum.inl (x : Int) : Key), V.int ((c x : Nat) : Int))) fun z => e (inl_eq.mp z)
      rw [e2]
      refine ct_val ?_
      rcases List.mem_cons.mp h with h | h
      · exact absurd h.symm e
      · exact h
theorem ct_none {c : Nat → Nat} {n : Nat} : ∀ {f : List Nat}, ¬ n ∈ f → valV (ctK f c) (Sum.inl (n : Int)) = none
  | [], _ => rfl
  | x :: f, h => by
    have e2 : valV (ctK (x :: f) c) (Sum.inl (n : Int)) = valV (ctK f c) (Sum.inl (n : Int)) := valV_neg (p := ((Sum.inl (x : Int) : Key), V.int ((c x : Nat) : Int))) fun z => h (by rw [inl_eq.mp z]; exact List.mem_cons_self)
    rw [e2]
    exact ct_none fun z => h (List.mem_cons_of_mem _ z)
theorem ct_new {f : List Nat} {c : Nat → Nat} {n : Nat} (h : ¬ n ∈ f) : putK (ctK f c) (Sum.inl (n : Int)) (.int ((c n : Nat) : Int)) = ctK (f ++ [n]) c := by
  rw [putK_new _ (ct_none h)]
  unfold ctK
  rw [List.map_append]
  rfl
theorem ct_put {f : List Nat} {c c' : Nat → Nat} {n v : Nat} (h : n ∈ f) (h1 : c' n = v) (h2 : ∀ x ∈ f, x ≠ n → c' x = c x) : putK (ctK f c) (Sum.inl (n : Int)) (.int (v : Int)) = ctK f c' := by
  unfold putK
  rw [valV_any, ct_val h]
  rw [if_pos (show (some (V.int ((c n : Nat) : Int))).isSome = true from rfl)]
  unfold ctK
  rw [List.map_map]
  refine List.map_congr_left fun x hx => ?_
  show (if (Sum.inl (x : Int) : Key) = Sum.inl (n : Int) then ((Sum.inl (x : Int) : Key), V.int (v : Int)) else (Sum.inl (x : Int), V.int ((c x : Nat) : Int))) = (Sum.inl (x : Int), V.int ((c' x : Nat) : Int))
  by_cases e : x = n
  · subst e
    rw [if_pos rfl, h1]
  · rw [if_neg fun z => e (inl_eq.mp z), h2 x hx e]
theorem ct_len (f : List Nat) (c : Nat → Nat) : (ctK f c).length = f.length := List.length_map _
theorem on_snoc {l : Mir.Mon} {x c : Nat} (j : Nat) (h : ∀ y ∈ l, y.1 ≠ x) : Tote.Money.on (l ++ [(x, c)]) j = if x = j then c else Tote.Money.on l j := by
  induction l with
  | nil =>
    show Tote.Money.on [(x, c)] j = _
    rw [Mir.on_cons]
  | cons y l ih =>
    obtain ⟨a, b⟩ := y
    show Tote.Money.on ((a, b) :: (l ++ [(x, c)])) j = _
    rw [Mir.on_cons, Mir.on_cons, ih fun z hz => h z (List.mem_cons_of_mem _ hz)]
    have : a ≠ x := h (a, b) List.mem_cons_self
    by_cases e1 : a = j
    · rw [if_pos e1, if_pos e1, if_neg (by omega)]
    · rw [if_neg e1, if_neg e1]
theorem mon_rise {many : Nat} : ∀ {m : Mir.Mon} {b : Int} {i x c : Nat}, Mir.monOk many b m = true → m[i]? = some (x, c) → x < many ∧ ∀ y ∈ m.take i, y.1 ≠ x
  | [], b, i, x, c, h, e => by simp at e
  | (y, d) :: r, b, 0, x, c, h, e => by
    have q := (Mir.monOk_cons many b y d r).mp h
    simp only [List.getElem?_cons_zero, Option.some.injEq, Prod.mk.injEq] at e
    obtain ⟨rfl, rfl⟩ := e
    exact ⟨q.1.2.1, fun z hz => by simp at hz⟩
  | (y, d) :: r, b, i + 1, x, c, h, e => by
    have q := (Mir.monOk_cons many b y d r).mp h
    have e : r[i]? = some (x, c) := e
    obtain ⟨h1, h2⟩ := mon_rise q.2 e
    refine ⟨h1, fun z hz => ?_⟩
    have hz : z ∈ (y, d) :: r.take i := hz
    rcases List.mem_cons.mp hz with rfl | hz
    · have := (Mir.mon_gt q.2 (x, c) (List.mem_of_getElem? e)).1
      have : (y : Int) < (x : Int) := this
      show y ≠ x
      omega
    · exact h2 z hz
theorem find_nd : ∀ {f : List Nat} {j n : Nat}, f.Nodup → f[j]? = some n → (f.findIdx fun y => y == n) = j
  | [], j, n, _, e => by simp at e
  | x :: f, 0, n, _, e => by
    have e : x = n := by simpa using e
    subst e
    rw [List.findIdx_cons]
    simp
  | x :: f, j + 1, n, nd, e => by
    have e : f[j]? = some n := e
    obtain ⟨h1, h2⟩ := List.nodup_cons.mp nd
    have hx : ¬ x = n := fun z => h1 (by rw [z]; exact List.mem_of_getElem? e)
    rw [List.findIdx_cons, show (x == n) = false from by simp [hx]]
    simp only [cond_false]
    rw [find_nd h2 e]
section
variable {P : Program} {w : World} {K : PySem.W.Frag} {mg : Str → Option Value} {base : Heap}
def spCents (K : PySem.W.Frag) : Sp := fun vs H Q _ => ∃ (a b : Addr) (mny f : List Nat), vs = [.ref a, .ref b] ∧ SqL K H a (vN mny) ∧ SqL K H b (vN f) ∧ mny.length ≤ 16000 ∧ mny.length % 2 = 0 ∧ Mir.FieldOk f ∧
  Mir.monOk f.length (-1) (pairsN mny) = true ∧ ∀ d H', Same H H' → H' d = some (.dK (ctK f (Mir.wM f (pairsN mny)))) → Q (.ref d) H'
theorem scCents : FnScope ["money", "interests", "cents_of", "interest", "at"] ["money", "interests"] (defScope s_cents_of_interests) := ⟨rfl, rfl, rfl, by decide +kernel, rfl, by decide +kernel, by decide +kernel⟩
theorem ok_cents {f : Addr} {fd : FuncData} (F : Fun K "cents_of_interests" "cents_of_interests" s_cents_of_interests f fd) (gl : mg "len" = none) (gr : mg "range" = none) : FnOk P w K mg base CX0 1 f fd ["money", "interests"] (spCents K) := by
  refine F.ok scCents (fun vs H Q E h => ?_) (fun cdv A outer s H vs Q E hr h => ?_)
  · obtain ⟨a, b, mny, fl, rfl, _⟩ := h
    rfl
  · obtain ⟨a, b, mny, fl, rfl, hM, hF, hl, he, fo, hmon, k⟩ := h
    have hu := hu_of hr
    refine ⟨_, pss_cons (ps_set (i := 2) scCents.nd rfl (Or.inl rfl) pe_dnewK)
      (pss_cons (ps_for PassesOwn.never rfl (pi_list (pv 1)) (pg_name (i := 3) scCents.nd rfl (Or.inl rfl)) (pss_one (ps_dput hu (pv 2) (pv 3) pe_int rfl)))
      (pss_cons (ps_for PassesOwn.never rfl (pi_range3 rfl gr (pa_cons pe_int (pa_cons (pe_callB call_len_seq (by rfl) gl PySem.boot_len (pa_cons (pv 0) pa_nil)) (pa_cons pe_int pa_nil)))) (pg_name (i := 4) scCents.nd rfl (Or.inl rfl))
        (pss_one (ps_dput hu (pv 2) (pe_ix ix_list (pv 1) (pe_ix ix_list (pv 0) (pv 4) (fun _ _ => rfl)) (fun _ _ => rfl)) (pe_ix ix_list (pv 0) (pe_op op_add (pv 4) pe_int) (fun _ _ => rfl)) rfl)))
      (pss_one (ps_ret (pv 2))))), ?_⟩
    intro d hd
    have s0 : Same H (upd H d (.dK [])) := fun b o e => by rw [upd_ne (ne_of_none e hd)]; exact e
    refine ⟨_, rfl, b, rfl, ⟨_, s0.seq hF⟩, for_list (K := K) (a := b) (xs := vN fl) (fun i σ H' => ∃ v : Option V, σ = [some (.ref a), some (.ref b), some (.ref d), v, none] ∧ Same H H' ∧ H' d = some (.dK (ctK (fl.take i) fun _ => 0)))
      ⟨none, rfl, s0, upd_same⟩ (fun i σ H' _ ⟨_, _, e, _⟩ => e.seq hF) ?_ ?_⟩
    · rintro i y σ H' hi ⟨v, rfl, s1, hD⟩
      obtain ⟨n, hn, rfl⟩ := vN_get hi
      have hnm : ¬ n ∈ fl.take i := by
        intro z
        obtain ⟨j, hj⟩ := List.mem_iff_getElem?.mp z
        have hlt : j < i := by
          have := (List.getElem?_eq_some_iff.mp hj).1
          rw [List.length_take] at this
          omega
        rw [List.getElem?_take_of_lt hlt] at hj
        have := nd_ix fo.nd hj hn
        omega
      refine ⟨_, rfl, _, rfl, d, _, rfl, DPut.k (k := Sum.inl (n : Int)) hD ?_, ⟨_, rfl, fun b o e => ?_, ?_⟩⟩
      · rw [ct_len, List.length_take]
        have := fo.len
        exact small1000 (by omega)
      · rw [upd_ne (ne_of_none e hd)]; exact s1 b o e
      · rw [upd_same, take_snoc hn]
        exact congrArg (fun z => some (HO.dK z)) (ct_new (c := fun _ => 0) hnm)
    · rintro σ H1 ⟨v, rfl, s1, hD⟩
      rw [vN_len, List.take_length] at hD
      refine ⟨_, rfl, a, vN mny, rfl, .inl (s1.seq hM), 0, (mny.length : Nat), 2, mny.length / 2, ?_, rg2 (by omega) he, ?_⟩
      · rw [vN_len]
      refine for_rangeC (lo := 0) (c := 2) (n := mny.length / 2)
        (fun i σ H' => ∃ v3 v4 : Option V, σ = [some (.ref a), some (.ref b), some (.ref d), v3, v4] ∧ Same H H' ∧ H' d = some (.dK (ctK fl fun h => Tote.Money.on ((pairsN mny).take i) (fl.findIdx fun y => y == h))))
        ⟨v, none, rfl, s1, hD⟩ ?_ ?_
      · rintro i σ H' hi ⟨v3, v4, rfl, s2, hD2⟩
        obtain ⟨x, c, hx, hc, hpair⟩ := pairsN_get mny i (by omega)
        obtain ⟨hlt, hne⟩ := mon_rise hmon hpair
        have ei : (0 : Int) + (i : Nat) * 2 = ((2 * i : Nat) : Int) := by omega
        have ei1 : (0 : Int) + (i : Nat) * 2 + 1 = ((2 * i + 1 : Nat) : Int) := by omega
        have gx : (vN mny)[2 * i]? = some (.int (x : Int)) := by unfold vN; rw [List.getElem?_map, hx]; rfl
        have gc : (vN mny)[2 * i + 1]? = some (.int (c : Int)) := by unfold vN; rw [List.getElem?_map, hc]; rfl
        obtain ⟨n, hn⟩ : ∃ n, fl[x]? = some n := ⟨fl[x], List.getElem?_eq_getElem hlt⟩
        have gn : (vN fl)[x]? = some (.int (n : Int)) := by unfold vN; rw [List.getElem?_map, hn]; rfl
        have hnm : n ∈ fl := List.mem_of_getElem? hn
        have hix := find_nd fo.nd hn
        refine ⟨_, rfl, _, rfl, _, _, rfl, rfl, a, _, _, _, rfl, rfl, s2.seq hM, at_of ei1 gc, ?_⟩
        refine ⟨_, rfl, _, rfl, _, rfl, _, rfl, a, _, _, _, rfl, rfl, s2.seq hM, at_of ei gx, b, _, _, _, rfl, rfl, s2.seq hF, atI_nat gn, ?_⟩
        refine ⟨d, _, rfl, DPut.k (k := Sum.inl (n : Int)) hD2 ?_, ⟨_, _, rfl, fun b o e => ?_, ?_⟩⟩
        · rw [ct_len]
          have := fo.len
          exact small1000 (by omega)
        · rw [upd_ne (ne_of_none e hd)]; exact s2 b o e
        · rw [upd_same]
          refine congrArg (fun z => some (HO.dK z)) (ct_put hnm ?_ fun y hy hyn => ?_)
          · rw [take_snoc hpair, on_snoc _ hne, if_pos hix.symm]
          · rw [take_snoc hpair, on_snoc _ hne, if_neg]
            intro z
            obtain ⟨j, hj⟩ := List.mem_iff_getElem?.mp hy
            have e := find_nd fo.nd hj
            rw [e] at z
            rw [← z, hn] at hj
            exact hyn (Option.some.inj hj).symm
      · rintro σ H' ⟨v3, v4, rfl, s2, hD2⟩
        refine ⟨_, rfl, k d H' s2 ?_⟩
        rw [hD2, List.take_of_length_le (by rw [pairsN_len]; exact Nat.le_refl _)]
        refine congrArg (fun z => some (HO.dK z)) ?_
        unfold ctK
        refine List.map_congr_left fun y hy => ?_
        unfold Mir.wM Mir.onM
        rw [if_pos hy]
theorem sum_perm {l m : List Nat} (h : l.Perm m) : l.sum = m.sum := by
  induction h with
  | nil => rfl
  | cons x _ ih => rw [List.sum_cons, List.sum_cons, ih]
  | swap x y l => rw [List.sum_cons, List.sum_cons, List.sum_cons, List.sum_cons]; omega
  | trans _ _ a b => exact a.trans b
theorem sum_sub (c : Nat → Nat) : ∀ {row f : List Nat}, row.Nodup → (∀ h ∈ row, h ∈ f) → (row.map c).sum ≤ (f.map c).sum
  | [], f, _, _ => Nat.zero_le _
  | h :: r, f, nd, hs => by
    obtain ⟨h1, h2⟩ := List.nodup_cons.mp nd
    have e := sum_perm ((List.perm_cons_erase (hs h List.mem_cons_self)).map c)
    rw [e, List.map_cons, List.map_cons, List.sum_cons, List.sum_cons]
    have := sum_sub c (row := r) (f := f.erase h) h2 fun x hx => (List.mem_erase_of_ne (fun z => h1 (by rw [← z]; exact hx))).mpr (hs x (List.mem_cons_of_mem _ hx))
    omega
theorem isum (c : Nat → Nat) : ∀ f : List Nat, (f.map fun h => ((c h : Nat) : Int)).sum = (((f.map c).sum : Nat) : Int)
  | [] => rfl
  | x :: f => by rw [List.map_cons, List.map_cons, List.sum_cons, List.sum_cons, isum c f, Int.natCast_add]
def spChance (K : PySem.W.Frag) : Sp := fun vs H Q _ => ∃ (r d : Addr) (row f : List Nat) (c : Nat → Nat), vs = [.ref r, .ref d] ∧ SqL K H r (vN row) ∧ H d = some (.dK (ctK f c)) ∧ (f.map c).sum ≤ 281474976710655 ∧ row.Nodup ∧ (∀ h ∈ row, h ∈ f) ∧ row.length ≤ 4 ∧
  ∀ t H', Same H H' → H' t = some (.tup [.int ((Mir.chM c 1 1 (f.map c).sum row).over : Int), .int ((Mir.chM c 1 1 (f.map c).sum row).under : Int)]) → Q (.ref t) H'
theorem scChance : FnScope ["row", "cents_of", "over", "under", "left", "interest", "cents"] ["row", "cents_of"] (defScope s_chance_of_order) := ⟨rfl, rfl, rfl, by decide +kernel, rfl, by decide +kernel, by decide +kernel⟩
theorem pow48 {i : Nat} (h : i ≤ 4) : (2 : Nat) ^ (48 * i) < 2 ^ 8000 := Nat.pow_lt_pow_right (by decide) (by omega)
theorem ok_chance {f fL g : Addr} {fd fdL fdG : FuncData} (F : Fun K "chance_of_order" "chance_of_order" s_chance_of_order f fd) (FL : Fun K "lowest_terms" "lowest_terms" s_lowest_terms fL fdL) (mgL : mg "lowest_terms" = some (.ref fL)) (bL : Binds K fdL ["over", "under"] [])
    (FG : Fun K "greatest_divisor" "greatest_divisor" s_greatest_divisor g fdG) (mgG : mg "greatest_divisor" = some (.ref g)) (bG : Binds K fdG ["one", "other"] []) (gs : mg "sum" = none) : FnOk P w K mg base CX0 3 f fd ["row", "cents_of"] (spChance K) := by
  have G : FnOk P w K mg base CX0 2 fL fdL ["over", "under"] spLow := ok_low FL FG mgG bG
  refine F.ok scChance (fun vs H Q E h => ?_) (fun cdv A outer s H vs Q E hr h => ?_)
  · obtain ⟨r, d, row, fl, c, rfl, _⟩ := h
    rfl
  · obtain ⟨r, d, row, fl, c, rfl, hR, hD, hS, nd, hin, hlen, k⟩ := h
    have hu := hu_of hr
    refine ⟨_, pss_cons (ps_set (i := 2) scChance.nd rfl (Or.inl rfl) pe_int)
      (pss_cons (ps_set (i := 3) scChance.nd rfl (Or.inl rfl) pe_int)
      (pss_cons (ps_set (i := 4) scChance.nd rfl (Or.inl rfl) (pe_sumV rfl rfl gs (pv 1)))
      (pss_cons (ps_for PassesOwn.never rfl (pi_list (pv 0)) (pg_name (i := 5) scChance.nd rfl (Or.inl rfl))
        (pss_cons (ps_set (i := 6) scChance.nd rfl (Or.inl rfl) (pe_dget hu (pv 1) (pv 5) (fun _ _ => rfl)))
        (pss_cons (ps_if (pt_cmpR op_eq (pv 6) pe_int (nomark _)) (pss_one (ps_ret (pe_tup (pa_cons pe_int (pa_cons pe_int pa_nil))))) pss_nil)
        (pss_cons (ps_set (i := 2) scChance.nd rfl (Or.inl rfl) (pe_op op_mul (pv 2) (pv 6)))
        (pss_cons (ps_set (i := 3) scChance.nd rfl (Or.inl rfl) (pe_op op_mul (pv 3) (pv 4)))
        (pss_one (ps_set (i := 4) scChance.nd rfl (Or.inl rfl) (pe_op op_sub (pv 4) (pv 6)))))))))
      (pss_one (ps_ret (pe_call G hr rfl mgL FL.kp bL .nil pass0 (pa_cons (pv 2) (pa_cons (pv 3) pa_nil)))))))), ?_⟩
    refine ⟨_, rfl, d, ctK fl c, fl.map fun h => ((c h : Nat) : Int), rfl, hD, ?_, ?_⟩
    · unfold ctK
      rw [List.map_map, List.map_map]
      rfl
    rw [isum]
    refine ⟨_, rfl, r, rfl, ⟨_, hR⟩, for_list (K := K) (a := r) (xs := vN row) (fun i σ H' => ∃ (o u left : Nat) (v5 v6 : Option V), σ = [some (.ref r), some (.ref d), some (.int (o : Int)), some (.int (u : Int)), some (.int (left : Int)), v5, v6] ∧ H' = H ∧
        Mir.chM c 1 1 (fl.map c).sum row = Mir.chM c o u left (row.drop i) ∧ left + ((row.take i).map c).sum = (fl.map c).sum ∧ 0 < u ∧ u ≤ 2 ^ (48 * i) ∧ i ≤ 4)
      ⟨1, 1, (fl.map c).sum, none, none, rfl, rfl, rfl, by simp, by decide, by decide, by decide⟩ (fun i σ H' _ ⟨_, _, _, _, _, _, e, _⟩ => by rw [e]; exact hR) ?_ ?_⟩
    · rintro i y σ H' hi ⟨o, u, left, v5, v6, rfl, rfl, hch, hleft, hu0, hub, hi4⟩
      obtain ⟨n, hn, rfl⟩ := vN_get hi
      have hnf : n ∈ fl := hin n (List.mem_of_getElem? hn)
      have hcons := drop_cons hn
      have hsub : ((row.take (i + 1)).map c).sum ≤ (fl.map c).sum := sum_sub c (List.Sublist.nodup (List.take_sublist _ _) nd) fun h hh => hin h (List.mem_of_mem_take hh)
      rw [take_snoc hn, List.map_append, List.sum_append] at hsub
      have hsub : ((row.take i).map c).sum + (c n + 0) ≤ (fl.map c).sum := hsub
      have hcl : c n ≤ left := by omega
      have hll : left ≤ 281474976710655 := by omega
      refine ⟨_, rfl, _, rfl, d, V.int ((c n : Nat) : Int), rfl, ?_, ?_⟩
      · have := DGet.k (k := Sum.inl (n : Int)) hD
        rw [ct_val hnf] at this
        exact this
      refine ⟨_, rfl, rfl, _, rfl, ?_⟩
      refine ite2 (fun e1 => ?_) (fun e1 => ?_)
      · have e1 : c n = 0 := by
          rw [int_dec] at e1
          have := of_decide_eq_true e1
          omega
        refine ⟨(by show 2 ≤ sizeLine; decide), fun p hp => ?_⟩
        refine k p _ (fun b o e => by rw [upd_ne (ne_of_none e hp)]; exact e) ?_
        rw [upd_same, hch, hcons]
        unfold Mir.chM
        rw [if_pos e1]
        rfl
      · have e1 : ¬ c n = 0 := fun z => e1 (by rw [int_dec]; exact decide_eq_true (by omega))
        refine ⟨_, rfl, _, rfl, _, _, rfl, rfl, .inr ⟨by omega, by omega⟩, _, rfl, _, rfl, _, _, rfl, rfl, .inr ⟨by omega, by omega⟩, _, rfl, _, rfl, _, _, rfl, rfl, ?_⟩
        refine ⟨o * c n, u * left, left - c n, some (.int (n : Int)), some (.int ((c n : Nat) : Int)), ?_, rfl, ?_, ?_, Nat.mul_pos hu0 (by omega), ?_, ?_⟩
        · have e3 : ((left - c n : Nat) : Int) = (left : Int) - (c n : Int) := by omega
          rw [e3, Int.natCast_mul, Int.natCast_mul]
          rfl
        · rw [hch, hcons]
          show (if c n = 0 then _ else _) = _
          rw [if_neg e1]
        · rw [take_snoc hn, List.map_append, List.sum_append]
          show left - c n + (_ + (c n + 0)) = _
          omega
        · have : 2 ^ (48 * (i + 1)) = 2 ^ (48 * i) * 2 ^ 48 := by rw [← Nat.pow_add]; rfl
          rw [this]
          exact Nat.mul_le_mul hub (Nat.le_trans hll (by decide))
        · have := (List.getElem?_eq_some_iff.mp hn).1
          omega
    · rintro σ H' ⟨o, u, left, v5, v6, rfl, rfl, hch, hleft, hu0, hub, hi4⟩
      rw [vN_len] at hch hub hi4
      rw [List.drop_length] at hch
      refine ⟨_, rfl, _, rfl, o, u, rfl, hu0, Nat.lt_of_le_of_lt hub (pow48 hi4), fun p hp => ?_⟩
      refine k p _ (fun b o e => by rw [upd_ne (ne_of_none e hp)]; exact e) ?_
      rw [upd_same, hch]
      rfl
end
end Od
set_option Elab.async false
set_option linter.all false
set_option maxRecDepth 100000
set_option maxHeartbeats 4000000
namespace Od
open PySem PySem.Spec PyProof.Rows L2
structure Wd (x : Str) : Prop where
  len : (TL.tl x).length ≤ 66000
  asc : ∀ c ∈ TL.tl x, c < 128
theorem Wd.line {x : Str} (h : Wd x) : x.length ≤ sizeLine := by
  rw [TL.len_tl]
  exact Nat.le_trans h.len (by decide)
theorem letters_b : ∀ c : Fin 128, decide (c.val ∈ (Str.ofString "abcdefghijklmnopqrstuvwxyz").cps.toList) = Mir.small c.val := by decide +kernel
theorem letters_lt : ∀ c ∈ (Str.ofString "abcdefghijklmnopqrstuvwxyz").cps.toList, c < 128 := by decide +kernel
theorem letters (c : Nat) : c ∈ (Str.ofString "abcdefghijklmnopqrstuvwxyz").cps.toList ↔ Mir.small c = true := by
  by_cases h : c < 128
  · have e : decide (c ∈ (Str.ofString "abcdefghijklmnopqrstuvwxyz").cps.toList) = Mir.small c := letters_b ⟨c, h⟩
    rw [← e]
    exact decide_eq_true_iff.symm
  · refine ⟨fun m => absurd (letters_lt c m) h, fun m => absurd ?_ h⟩
    unfold Mir.small at m
    simp only [Bool.and_eq_true, decide_eq_true_eq] at m
    omega
theorem digit_asc : ∀ c : Nat, c < 128 → Unicode.isDigit c = Mir.dig c := by decide +kernel
theorem isdigit_eq {x : Str} (h : Wd x) : Txt.isdigit x = (decide (TL.tl x ≠ []) && (TL.tl x).all Mir.dig) := by
  unfold Txt.isdigit
  have e1 : x.cps.all Unicode.isDigit = (TL.tl x).all Mir.dig := by
    rw [← Array.all_toList]
    have : ∀ l : List Nat, (∀ c ∈ l, c < 128) → l.all Unicode.isDigit = l.all Mir.dig := by
      intro l
      induction l with
      | nil => intro _; rfl
      | cons c l ih =>
        intro hl
        rw [List.all_cons, List.all_cons, digit_asc c (hl c List.mem_cons_self), ih fun d hd => hl d (List.mem_cons_of_mem _ hd)]
    exact this _ h.asc
  rw [e1, TL.len_tl]
  congr 1
  cases TL.tl x with
  | nil => rfl
  | cons c l => simp
theorem at_head {l : List Nat} {c : Nat} (h : l.head? = some c) : atI l ((0 : Nat) : Int) = some c := atI_nat (by rw [← List.head?_eq_getElem?]; exact h)
theorem val_comm (w : List Nat) : NumText.digitsVal w = Mir.valD w := by
  unfold NumText.digitsVal Mir.valD
  congr 1
  funext n c
  rw [Nat.mul_comm]
abbrev vS (ys : List Str) : List V := ys.map V.str
abbrev tls (ys : List Str) : List Mir.W := ys.map TL.tl
theorem vS_get {ys : List Str} {i : Nat} {y : Str} (h : ys[i]? = some y) : (vS ys)[i]? = some (V.str y) := by rw [List.getElem?_map, h]; rfl
theorem vS_len (ys : List Str) : (vS ys).length = ys.length := List.length_map _
theorem vS_at {ys : List Str} {i : Nat} (h : i < ys.length) : ∃ y, ys[i]? = some y ∧ atI (vS ys) ((i : Nat) : Int) = some (V.str y) := ⟨ys[i], List.getElem?_eq_getElem h, atI_nat (vS_get (List.getElem?_eq_getElem h))⟩
section
variable {P : Program} {w : World} {K : PySem.W.Frag} {mg : Str → Option Value} {base : Heap} {C0 : Addr}
def spName (C0 : Addr) : Sp := fun vs H Q E => ∃ x : Str, vs = [.str x] ∧ Wd x ∧ if Mir.okName (TL.tl x) = true then Q .non H else E (.ref C0) none H
theorem scName : FnScope ["word"] ["word"] (defScope s_check_name) := ⟨rfl, rfl, rfl, by decide +kernel, rfl, by decide +kernel, by decide +kernel⟩
theorem ok_name {f : Addr} {fd : FuncData} (F : Fun K "check_name" "check_name" s_check_name f fd) (Z : Exn K mg "NoCard" C0) (gl : mg "len" = none) (g12 : GV mg "LONGEST_NAME" (.int 12)) (gL : GV mg "LETTERS" (.str (Str.ofString "abcdefghijklmnopqrstuvwxyz"))) :
    FnOk P w K mg base (CXN P w C0) 1 f fd ["word"] (spName C0) := by
  refine okX F scName (fun vs H Q E h => ?_) (fun cdv A outer s H vs Q E hr h => ?_)
  · obtain ⟨x, rfl, _⟩ := h
    rfl
  · obtain ⟨x, rfl, hx, k⟩ := h
    refine ⟨_, pss_one (ps_if (PW.pt (pw_or (pt_cmpR op_lt (pe_callB call_len_str (by rfl) gl PySem.boot_len (pa_cons (pv 0) pa_nil)) pe_int (nomark _)) (pw_or (pt_cmpR op_gt (pe_callB call_len_str (by rfl) gl PySem.boot_len (pa_cons (pv 0) pa_nil)) (pe_gl g12) (nomark _))
      (pw_or1 (pt_cmpR op_notIn_sign (pe_ix ix_str (pv 0) pe_int (fun _ _ => rfl)) (pe_gl gL) (by with_unfolding_all rfl)))))) (pss_one (ps_raise0 rfl rfl Z rais)) pss_nil), ?_⟩
    have hl := TL.len_tl x
    refine ⟨_, rfl, x, rfl, hx.line, _, _, rfl, rfl, _, rfl, ?_⟩
    refine ite2 (fun e1 => ?_) (fun e1 => ?_)
    · refine iteT ?_
      have e1 := of_decide_eq_true e1
      rw [if_neg] at k
      · exact k
      · unfold Mir.okName
        rw [decide_eq_false (by omega)]
        simp
    · have e1 := ndec e1
      refine ⟨_, rfl, x, rfl, hx.line, _, _, rfl, rfl, _, rfl, ?_⟩
      refine ite2 (fun e2 => ?_) (fun e2 => ?_)
      · refine iteT ?_
        have e2 := of_decide_eq_true e2
        rw [if_neg] at k
        · exact k
        · unfold Mir.okName
          rw [decide_eq_false (show ¬ (TL.tl x).length ≤ 12 by omega)]
          simp
      · have e2 := ndec e2
        obtain ⟨c, hc⟩ : ∃ c, (TL.tl x).head? = some c := by
          cases q : TL.tl x with
          | nil =>
            rw [q] at hl
            simp at hl
            omega
          | cons c l => exact ⟨c, rfl⟩
        refine ⟨_, rfl, x, _, c, rfl, rfl, hx.line, at_head hc, c, _, rfl, rfl, _, rfl, ?_⟩
        have hk : Mir.okName (TL.tl x) = Mir.small c := by
          unfold Mir.okName
          rw [decide_eq_true (show 1 ≤ (TL.tl x).length by omega), decide_eq_true (show (TL.tl x).length ≤ 12 by omega), hc]
          rfl
        rw [hk] at k
        refine ite2 (fun e3 => ?_) (fun e3 => ?_)
        · rw [if_neg] at k
          · exact k
          · intro z
            rw [decide_eq_true ((letters c).mpr z)] at e3
            cases e3
        · rw [if_pos] at k
          · exact k
          · have e3 : decide (c ∈ (Str.ofString "abcdefghijklmnopqrstuvwxyz").cps.toList) = true := by simpa using e3
            exact (letters c).mp (of_decide_eq_true e3)
def spDay (K : PySem.W.Frag) (C0 : Addr) : Sp := fun vs H Q E => ∃ (a : Addr) (ys : List Str), vs = [.ref a] ∧ SqL K H a (vS ys) ∧ (∀ y ∈ ys, Wd y) ∧ if (Mir.dayM (tls ys)).isSome = true then Q .non H else E (.ref C0) none H
theorem scDay : FnScope ["words"] ["words"] (defScope s_check_day) := ⟨rfl, rfl, rfl, by decide +kernel, rfl, by decide +kernel, by decide +kernel⟩
theorem ok_day {f fN : Addr} {fd fdN : FuncData} (F : Fun K "check_day" "check_day" s_check_day f fd) (FN : Fun K "check_name" "check_name" s_check_name fN fdN) (mgN : mg "check_name" = some (.ref fN)) (bN : Binds K fdN ["word"] [])
    (Z : Exn K mg "NoCard" C0) (gl : mg "len" = none) (g12 : GV mg "LONGEST_NAME" (.int 12)) (gL : GV mg "LETTERS" (.str (Str.ofString "abcdefghijklmnopqrstuvwxyz"))) :
    FnOk P w K mg base (CXN P w C0) 2 f fd ["words"] (spDay K C0) := by
  have G : FnOk P w K mg base (CXN P w C0) 1 fN fdN ["word"] (spName C0) := ok_name FN Z gl g12 gL
  refine okX F scDay (fun vs H Q E h => ?_) (fun cdv A outer s H vs Q E hr h => ?_)
  · obtain ⟨a, ys, rfl, _⟩ := h
    rfl
  · obtain ⟨a, ys, rfl, hS, hW, k⟩ := h
    refine ⟨_, pss_cons (ps_if (PW.pt (pw_or (pt_cmpR op_ne (pe_callB call_len_seq (by rfl) gl PySem.boot_len (pa_cons (pv 0) pa_nil)) pe_int (nomark _)) (pw_or1 (pt_cmpR op_ne (pe_ix ix_list (pv 0) pe_int (fun _ _ => rfl)) pe_str (nomark _))))) (pss_one (ps_raise0 rfl rfl Z rais)) pss_nil)
      (pss_one (ps_expr (pe_call G hr rfl mgN FN.kp bN .nil pas (pa_cons (pe_ix ix_list (pv 0) pe_int (fun _ _ => rfl)) pa_nil)))), ?_⟩
    refine ⟨_, rfl, a, vS ys, rfl, .inl hS, rfl, _, rfl, ?_⟩
    rw [vS_len, int_dec]
    refine ite2 (fun e1 => ?_) (fun e1 => ?_)
    · refine iteT ?_
      rw [if_neg] at k
      · exact k
      · intro z
        match ys, z, e1 with
        | [_, _], _, e1 => simp at e1
        | [], z, _ => cases z
        | [_], z, _ => cases z
        | _ :: _ :: _ :: _, z, _ => cases z
    · have e1 : ys.length = 2 := by simp at e1; omega
      match ys, e1 with
      | [d, n], _ =>
        refine ⟨_, rfl, a, _, _, _, rfl, rfl, hS, rfl, rfl, _, rfl, ?_⟩
        rw [str_dec]
        have hk : (Mir.dayM (tls [d, n])).isSome = (decide (TL.tl d = Mir.kw "day") && Mir.okName (TL.tl n)) := by
          show (if TL.tl d = Mir.kw "day" ∧ Mir.okName (TL.tl n) = true then some () else none).isSome = _
          by_cases h1 : TL.tl d = Mir.kw "day"
          · cases h2 : Mir.okName (TL.tl n) <;> simp [h1]
          · simp [h1]
        rw [hk] at k
        refine ite2 (fun e2 => ?_) (fun e2 => ?_)
        · rw [if_neg] at k
          · exact k
          · intro z
            rw [Bool.and_eq_true] at z
            rw [z.1] at e2
            cases e2
        · have e2 : decide (TL.tl d = Mir.kw "day") = true := by simpa using e2
          rw [e2, Bool.true_and] at k
          exact ⟨_, rfl, a, _, _, _, rfl, rfl, hS, rfl, n, rfl, hW n (by simp), k⟩
def spNum (C0 : Addr) : Sp := fun vs H Q E => ∃ (x : Str) (lo hi : Nat), vs = [.str x, .int (lo : Int), .int (hi : Int)] ∧ Wd x ∧ match Mir.num lo hi (TL.tl x) with
  | some n => Q (.int (n : Int)) H
  | none => E (.ref C0) none H
theorem scNum : FnScope ["word", "lowest", "highest", "number"] ["word", "lowest", "highest"] (defScope s_read_number) := ⟨rfl, rfl, rfl, by decide +kernel, rfl, by decide +kernel, by decide +kernel⟩
theorem num_no {lo hi : Nat} {w : Mir.W} (h : ¬ (w ≠ [] ∧ w.all Mir.dig = true ∧ w.length ≤ 5 ∧ ¬ (w.head? = some 48 ∧ w ≠ [48]) ∧ lo ≤ Mir.valD w ∧ Mir.valD w ≤ hi)) : Mir.num lo hi w = none := by
  unfold Mir.num
  rw [if_neg h]
theorem ok_num {f : Addr} {fd : FuncData} (F : Fun K "read_number" "read_number" s_read_number f fd) (Z : Exn K mg "NoCard" C0) (gl : mg "len" = none) (gi : mg "int" = none) (g5 : GV mg "LONGEST_NUMBER" (.int 5)) :
    FnOk P w K mg base (CXN P w C0) 1 f fd ["word", "lowest", "highest"] (spNum C0) := by
  refine okX F scNum (fun vs H Q E h => ?_) (fun cdv A outer s H vs Q E hr h => ?_)
  · obtain ⟨x, lo, hi, rfl, _⟩ := h
    rfl
  · obtain ⟨x, lo, hi, rfl, hx, k⟩ := h
    refine ⟨_, pss_cons (ps_if (PW.pt (pw_or (pt_not (pt_val (pe_m0 PySem.F.slot_str_isdigit PySem.F.type_str_isdigit mt_isdigit (pv 0)))) (pw_or1 (pt_cmpR op_gt (pe_callB call_len_str (by rfl) gl PySem.boot_len (pa_cons (pv 0) pa_nil)) (pe_gl g5) (nomark _))))) (pss_one (ps_raise0 rfl rfl Z rais)) pss_nil)
      (pss_cons (ps_if (PW.pt (pw_and (pt_cmpR op_eq (pe_ix ix_str (pv 0) pe_int (fun _ _ => rfl)) pe_str (nomark _)) (pw_and1 (pt_cmpR op_ne (pv 0) pe_str (nomark _))))) (pss_one (ps_raise0 rfl rfl Z rais)) pss_nil)
      (pss_cons (ps_set (i := 3) scNum.nd rfl (Or.inl rfl) (pe_callTy call_int_str (by rfl) gi PyProof.Rows.boot_int (pa_cons (pv 0) pa_nil)))
      (pss_cons (ps_if (PW.pt (pw_or (pt_cmpR op_lt (pv 3) (pv 1) (nomark _)) (pw_or1 (pt_cmpR op_gt (pv 3) (pv 2) (nomark _))))) (pss_one (ps_raise0 rfl rfl Z rais)) pss_nil)
      (pss_one (ps_ret (pv 3)))))), ?_⟩
    have hl := TL.len_tl x
    refine ⟨_, rfl, ⟨x, rfl⟩, x, rfl, rfl, trivial, _, rfl, ?_⟩
    rw [isdigit_eq hx]
    refine ite2 (fun e1 => ?_) (fun e1 => ?_)
    · refine iteT ?_
      rw [num_no] at k
      · exact k
      · rintro ⟨a1, a2, _⟩
        rw [decide_eq_true a1, a2] at e1
        cases e1
    · have e1 : (decide (TL.tl x ≠ []) && (TL.tl x).all Mir.dig) = true := by
        cases q : (decide (TL.tl x ≠ []) && (TL.tl x).all Mir.dig) with
        | true => rfl
        | false => rw [q] at e1; exact absurd rfl e1
      rw [Bool.and_eq_true] at e1
      have hne : TL.tl x ≠ [] := of_decide_eq_true e1.1
      have hdg := e1.2
      refine ⟨_, rfl, x, rfl, hx.line, _, _, rfl, rfl, _, rfl, ?_⟩
      refine ite2 (fun e2 => ?_) (fun e2 => ?_)
      · have e2 := of_decide_eq_true e2
        rw [num_no] at k
        · exact k
        · rintro ⟨_, _, a3, _⟩
          omega
      · have e2 := ndec e2
        have hl5 : (TL.tl x).length ≤ 5 := by omega
        obtain ⟨c, hc⟩ : ∃ c, (TL.tl x).head? = some c := by
          cases q : TL.tl x with
          | nil => exact absurd q hne
          | cons c l => exact ⟨c, rfl⟩
        have h0 : decide (V.str ⟨#[c]⟩ = V.str (Str.ofString "0")) = decide (c = 48) := by
          rw [str_dec]
          refine decide_eq_decide.mpr ⟨fun z => ?_, fun z => ?_⟩
          · have z : [c] = [48] := z
            exact (List.cons.inj z).1
          · rw [z]; rfl
        have h00 : Mir.kw "0" = [48] := by decide
        have hnum : PySem.intText? x = some ((Mir.valD (TL.tl x) : Nat) : Int) := by
          rw [← val_comm]
          refine PySem.intText_digits (fun d hd => ?_) hne (by omega)
          have := List.all_eq_true.mp hdg d hd
          unfold Mir.dig at this
          simpa using this
        have last : ¬ (c = 48 ∧ TL.tl x ≠ [48]) → if (Mir.valD (TL.tl x) < lo ∨ hi < Mir.valD (TL.tl x)) then E (.ref C0) none H else Q (.int ((Mir.valD (TL.tl x) : Nat) : Int)) H := fun hz => by
          by_cases hb : Mir.valD (TL.tl x) < lo ∨ hi < Mir.valD (TL.tl x)
          · rw [if_pos hb]
            rw [num_no] at k
            · exact k
            · rintro ⟨_, _, _, _, a5, a6⟩
              omega
          · rw [if_neg hb]
            unfold Mir.num at k
            rw [if_pos ⟨hne, hdg, hl5, fun z => hz ⟨by rw [hc] at z; exact Option.some.inj z.1, z.2⟩, by omega, by omega⟩] at k
            exact k
        have tail : (if (Mir.valD (TL.tl x) < lo ∨ hi < Mir.valD (TL.tl x)) then E (.ref C0) none H else Q (.int ((Mir.valD (TL.tl x) : Nat) : Int)) H) →
            ((if decide (((Mir.valD (TL.tl x) : Nat) : Int) < (lo : Int)) = true then (E (.ref C0) none H) else if decide ((hi : Int) < ((Mir.valD (TL.tl x) : Nat) : Int)) = true then (E (.ref C0) none H) else Q (.int ((Mir.valD (TL.tl x) : Nat) : Int)) H)) := fun q => by
          by_cases h1 : Mir.valD (TL.tl x) < lo
          · rw [if_pos (.inl h1)] at q
            rw [if_pos (decide_eq_true (by omega))]
            exact q
          · rw [if_neg (fun z => h1 (by have := of_decide_eq_true z; omega))]
            by_cases h2 : hi < Mir.valD (TL.tl x)
            · rw [if_pos (.inr h2)] at q
              rw [if_pos (decide_eq_true (by omega))]
              exact q
            · rw [if_neg (by omega)] at q
              rw [if_neg (fun z => h2 (by have := of_decide_eq_true z; omega))]
              exact q
        refine ⟨_, rfl, x, _, c, rfl, rfl, hx.line, at_head hc, rfl, _, rfl, ?_⟩
        rw [h0]
        have run : ¬ (c = 48 ∧ TL.tl x ≠ [48]) → _ := fun hz => tail (last hz)
        refine ite2 (fun e3 => ?_) (fun e3 => ?_)
        · have e3 : c = 48 := of_decide_eq_true e3
          refine ⟨_, rfl, rfl, _, rfl, ?_⟩
          rw [str_dec, h00]
          refine ite2 (fun e4 => ?_) (fun e4 => ?_)
          · have e4 : ¬ TL.tl x = [48] := by simpa using e4
            rw [num_no] at k
            · exact k
            · rintro ⟨_, _, _, a4, _⟩
              exact a4 ⟨by rw [hc, e3], e4⟩
          · have e4 : TL.tl x = [48] := by simpa using e4
            refine ⟨_, rfl, x, _, rfl, hnum, by omega, ?_⟩
            have q := run fun z => z.2 e4
            refine ⟨_, rfl, _, rfl, _, _, rfl, rfl, _, rfl, ?_⟩
            refine ite2 (fun e5 => ?_) (fun e5 => ?_)
            · rw [if_pos e5] at q
              exact iteT q
            · rw [if_neg e5] at q
              refine ⟨_, rfl, _, rfl, _, _, rfl, rfl, _, rfl, ?_⟩
              refine ite2 (fun e6 => ?_) (fun e6 => ?_)
              · rw [if_pos e6] at q
                exact q
              · rw [if_neg e6] at q
                exact ⟨_, rfl, q⟩
        · have e3 : ¬ c = 48 := fun z => e3 (decide_eq_true z)
          refine iteF ?_
          refine ⟨_, rfl, x, _, rfl, hnum, by omega, ?_⟩
          have q := run fun z => e3 z.1
          refine ⟨_, rfl, _, rfl, _, _, rfl, rfl, _, rfl, ?_⟩
          refine ite2 (fun e5 => ?_) (fun e5 => ?_)
          · rw [if_pos e5] at q
            exact iteT q
          · rw [if_neg e5] at q
            refine ⟨_, rfl, _, rfl, _, _, rfl, rfl, _, rfl, ?_⟩
            refine ite2 (fun e6 => ?_) (fun e6 => ?_)
            · rw [if_pos e6] at q
              exact q
            · rw [if_neg e6] at q
              exact ⟨_, rfl, q⟩
end
end Od
set_option Elab.async false
set_option linter.all false
set_option maxRecDepth 100000
set_option maxHeartbeats 4000000
namespace Od
open PySem PySem.Spec PyProof.Rows L2
structure TupK (K : PySem.W.Frag) (mg : Str → Option Value) (x : Str) (xs : List V) : Prop where
  ex : ∃ a, GV mg x (.ref a) ∧ ∀ H, SqT K H a xs
def fixedL : List (Nat × String) := [(0, "pool"), (4, "from"), (6, "take"), (8, "break"), (10, "least"), (12, "unit"), (14, "none")]
structure FixK (K : PySem.W.Frag) (mg : Str → Option Value) (x : Str) : Prop where
  ex : ∃ (a : Addr) (as : List Addr), GV mg x (.ref a) ∧ (∀ H, SqT K H a (as.map V.ref)) ∧ as.length = 7 ∧ ∀ (i : Nat) (b : Addr) (p : Nat × String), as[i]? = some b → fixedL[i]? = some p → ∀ H, SqT K H b [.int (p.1 : Int), .str (Str.ofString p.2)]
theorem str_eqV (a b : Str) : eqV (.str a) (.str b) = decide (TL.tl a = TL.tl b) := by
  show decide (a = b) = _
  exact decide_eq_decide.mpr ⟨fun e => by rw [e], fun e => TL.ext_tl e⟩
theorem in3 (z a b c : Str) : inV (.str z) [.str a, .str b, .str c] = decide (TL.tl z = TL.tl a ∨ TL.tl z = TL.tl b ∨ TL.tl z = TL.tl c) := by
  show (eqV (.str a) (.str z) || (eqV (.str b) (.str z) || (eqV (.str c) (.str z) || false))) = _
  rw [str_eqV, str_eqV, str_eqV]
  rw [Bool.eq_iff_iff]
  simp only [Bool.or_eq_true, decide_eq_true_eq, Bool.or_false]
  constructor
  · rintro (h | h | h)
    · exact .inl h.symm
    · exact .inr (.inl h.symm)
    · exact .inr (.inr h.symm)
  · rintro (h | h | h)
    · exact .inl h.symm
    · exact .inr (.inl h.symm)
    · exact .inr (.inr h.symm)
theorem kT {b : Bool} {A B : Prop} (k : if b = true then A else B) (h : b = true) : A := by
  rw [if_pos h] at k
  exact k
theorem kF {b : Bool} {A B : Prop} (k : if b = true then A else B) (h : b = false) : B := by
  rw [if_neg (by rw [h]; exact Bool.false_ne_true)] at k
  exact k
theorem tl_kw (s : String) : TL.tl (Str.ofString s) = Mir.kw s := TL.tl_ofString s
section
variable {P : Program} {w : World} {K : PySem.W.Frag} {mg : Str → Option Value} {base : Heap} {C0 : Addr}
def spNone (C0 : Addr) : Sp := fun vs H Q E => ∃ z k : Str, vs = [.str z, .str k] ∧ if (Mir.noneM (TL.tl z) (TL.tl k)).isSome = true then Q .non H else E (.ref C0) none H
theorem scNone : FnScope ["word", "kind"] ["word", "kind"] (defScope s_check_none) := ⟨rfl, rfl, rfl, by decide +kernel, rfl, by decide +kernel, by decide +kernel⟩
theorem ok_none {f : Addr} {fd : FuncData} (F : Fun K "check_none" "check_none" s_check_none f fd) (Z : Exn K mg "NoCard" C0) (gW : TupK K mg "WAYS_OF_NONE" [.str (Str.ofString "refund"), .str (Str.ofString "carry"), .str (Str.ofString "fewer")]) :
    FnOk P w K mg base (CXN P w C0) 1 f fd ["word", "kind"] (spNone C0) := by
  obtain ⟨wa, gw, hT⟩ := gW.ex
  refine okX F scNone (fun vs H Q E h => ?_) (fun cdv A outer s H vs Q E hr h => ?_)
  · obtain ⟨z, k, rfl, _⟩ := h
    rfl
  · obtain ⟨z, kd, rfl, k⟩ := h
    refine ⟨_, pss_cons (ps_if (pt_cmpR op_notIn_seq (pv 0) (pe_gl gw) (by with_unfolding_all rfl)) (pss_one (ps_raise0 rfl rfl Z rais)) pss_nil)
      (pss_one (ps_if (PW.pt (pw_and (pt_cmpR op_eq (pv 0) pe_str (nomark _)) (pw_and1 (pt_cmpR op_eq (pv 1) pe_str (nomark _))))) (pss_one (ps_raise0 rfl rfl Z rais)) pss_nil)), ?_⟩
    refine ⟨_, rfl, wa, _, rfl, .inr (hT H), rfl, rfl, _, rfl, ?_⟩
    rw [if_pos rfl, in3, tl_kw, tl_kw, tl_kw]
    unfold Mir.noneM at k
    refine ite2 (fun e1 => ?_) (fun e1 => ?_)
    · have e1 : ¬ (TL.tl z = Mir.kw "refund" ∨ TL.tl z = Mir.kw "carry" ∨ TL.tl z = Mir.kw "fewer") := by simpa using e1
      exact kF k (by rw [if_neg e1]; rfl)
    · have e1 : TL.tl z = Mir.kw "refund" ∨ TL.tl z = Mir.kw "carry" ∨ TL.tl z = Mir.kw "fewer" := Classical.byContradiction fun q => e1 (by rw [decide_eq_false q]; rfl)
      rw [show (if TL.tl z = Mir.kw "refund" ∨ TL.tl z = Mir.kw "carry" ∨ TL.tl z = Mir.kw "fewer" then (if TL.tl z = Mir.kw "fewer" ∧ TL.tl kd = Mir.kw "place" then none else some ()) else none) = (if TL.tl z = Mir.kw "fewer" ∧ TL.tl kd = Mir.kw "place" then none else some ()) from if_pos e1] at k
      refine ⟨_, rfl, rfl, _, rfl, ?_⟩
      rw [str_dec]
      refine ite2 (fun e2 => ?_) (fun e2 => ?_)
      · have e2 := of_decide_eq_true e2
        refine ⟨_, rfl, rfl, _, rfl, ?_⟩
        rw [str_dec]
        refine ite2 (fun e3 => ?_) (fun e3 => ?_)
        · have e3 := of_decide_eq_true e3
          exact kF k (by rw [if_pos ⟨e2, e3⟩]; rfl)
        · have e3 := ndec e3
          exact kT k (by rw [if_neg fun q => e3 q.2]; rfl)
      · have e2 := ndec e2
        exact iteF (kT k (by rw [if_neg fun q => e2 q.1]; rfl))
def spTerms (C0 : Addr) : Sp := fun vs H Q E => ∃ t b m u : Str, vs = [.str t, .str b, .str m, .str u] ∧ (Wd t ∧ Wd b ∧ Wd m ∧ Wd u) ∧ if (Mir.termsM (TL.tl t) (TL.tl b) (TL.tl m) (TL.tl u)).isSome = true then Q .non H else E (.ref C0) none H
theorem scTerms : FnScope ["take_word", "break_word", "least_word", "unit_word", "unit", "least"] ["take_word", "break_word", "least_word", "unit_word"] (defScope s_check_terms) := ⟨rfl, rfl, rfl, by decide +kernel, rfl, by decide +kernel, by decide +kernel⟩
theorem ok_terms {f fN : Addr} {fd fdN : FuncData} (F : Fun K "check_terms" "check_terms" s_check_terms f fd) (FN : Fun K "read_number" "read_number" s_read_number fN fdN) (mgN : mg "read_number" = some (.ref fN)) (bN : Binds K fdN ["word", "lowest", "highest"] [])
    (Z : Exn K mg "NoCard" C0) (gl : mg "len" = none) (gi : mg "int" = none) (g5 : GV mg "LONGEST_NUMBER" (.int 5)) (gT : GV mg "MOST_TAKE" (.int 400)) (gB : GV mg "MOST_BREAK" (.int 1000)) (gU : GV mg "MOST_UNIT" (.int 10000)) :
    FnOk P w K mg base (CXN P w C0) 2 f fd ["take_word", "break_word", "least_word", "unit_word"] (spTerms C0) := by
  have G : FnOk P w K mg base (CXN P w C0) 1 fN fdN ["word", "lowest", "highest"] (spNum C0) := ok_num FN Z gl gi g5
  refine okX F scTerms (fun vs H Q E h => ?_) (fun cdv A outer s H vs Q E hr h => ?_)
  · obtain ⟨t, b, m, u, rfl, _⟩ := h
    rfl
  · obtain ⟨t, b, m, u, rfl, ⟨wt, wb, wm, wu⟩, k⟩ := h
    refine ⟨_, pss_cons (ps_expr (pe_call G hr rfl mgN FN.kp bN .nil pas (pa_cons (pv 0) (pa_cons pe_int (pa_cons (pe_gl gT) pa_nil)))))
      (pss_cons (ps_expr (pe_call G hr rfl mgN FN.kp bN .nil pas (pa_cons (pv 1) (pa_cons pe_int (pa_cons (pe_gl gB) pa_nil)))))
      (pss_cons (ps_set (i := 4) scTerms.nd rfl (Or.inl rfl) (pe_call G hr rfl mgN FN.kp bN .nil pas (pa_cons (pv 3) (pa_cons pe_int (pa_cons (pe_gl gU) pa_nil)))))
      (pss_cons (ps_set (i := 5) scTerms.nd rfl (Or.inl rfl) (pe_call G hr rfl mgN FN.kp bN .nil pas (pa_cons (pv 2) (pa_cons pe_int (pa_cons (pe_op op_mul pe_int (pv 4)) pa_nil)))))
      (pss_one (ps_if (PW.pt (pw_and (pt_cmpR op_ne (pv 5) pe_int (nomark _)) (pw_and1 (pt_cmpR op_lt (pv 5) (pv 4) (nomark _))))) (pss_one (ps_raise0 rfl rfl Z rais)) pss_nil))))), ?_⟩
    unfold Mir.termsM at k
    refine ⟨_, rfl, t, 0, 400, rfl, wt, ?_⟩
    cases h1 : Mir.num 0 400 (TL.tl t) with
    | none =>
      rw [h1] at k
      exact k
    | some n1 =>
      rw [h1, Option.bind_some] at k
      refine ⟨_, rfl, b, 1, 1000, rfl, wb, ?_⟩
      cases h2 : Mir.num 1 1000 (TL.tl b) with
      | none =>
        rw [h2] at k
        exact k
      | some n2 =>
        rw [h2, Option.bind_some] at k
        refine ⟨_, rfl, u, 1, 10000, rfl, wu, ?_⟩
        cases h3 : Mir.num 1 10000 (TL.tl u) with
        | none =>
          rw [h3] at k
          exact k
        | some un =>
          rw [h3, Option.bind_some] at k
          refine ⟨_, rfl, _, rfl, _, _, rfl, rfl, .inl ⟨by decide, by decide⟩, m, 0, 2 * un, ?_, wm, ?_⟩
          · rw [Int.natCast_mul]
            rfl
          cases h4 : Mir.num 0 (2 * un) (TL.tl m) with
          | none =>
            rw [h4] at k
            exact k
          | some le =>
            rw [h4, Option.bind_some] at k
            refine ⟨_, rfl, rfl, _, rfl, ?_⟩
            rw [int_dec]
            refine ite2 (fun e1 => ?_) (fun e1 => ?_)
            · have e1 : ¬ le = 0 := by
                simp at e1
                exact e1
              refine ⟨_, rfl, _, rfl, _, _, rfl, rfl, _, rfl, ?_⟩
              refine ite2 (fun e2 => ?_) (fun e2 => ?_)
              · have e2 : (le : Int) < (un : Int) := of_decide_eq_true e2
                exact kF k (by rw [if_pos ⟨e1, by omega⟩]; rfl)
              · have e2 : ¬ (le : Int) < (un : Int) := ndec e2
                exact kT k (by rw [if_neg fun q => e2 (by have := q.2; omega)]; rfl)
            · have e1 : le = 0 := by
                simp at e1
                exact e1
              exact iteF (kT k (by rw [if_neg fun q => q.1 e1]; rfl))
def fixedOk (ws : List Mir.W) : Bool := decide (ws.length = 16) && fixedL.all fun p => decide (ws[p.1]? = some (Mir.kw p.2))
def spFixed (K : PySem.W.Frag) (C0 : Addr) : Sp := fun vs H Q E => ∃ (a : Addr) (ys : List Str), vs = [.ref a] ∧ SqL K H a (vS ys) ∧ if fixedOk (tls ys) = true then Q .non H else E (.ref C0) none H
theorem scFixed : FnScope ["words", "at", "word"] ["words"] (defScope s_check_fixed_words) := ⟨rfl, rfl, rfl, by decide +kernel, rfl, by decide +kernel, by decide +kernel⟩
theorem fixed_small : ∀ (i : Nat) (p : Nat × String), fixedL[i]? = some p → p.1 < 16 := by
  intro i p h
  have : ∀ p ∈ fixedL, p.1 < 16 := by decide
  exact this p (List.mem_of_getElem? h)
theorem ok_fixed {f : Addr} {fd : FuncData} (F : Fun K "check_fixed_words" "check_fixed_words" s_check_fixed_words f fd) (Z : Exn K mg "NoCard" C0) (gl : mg "len" = none) (g16 : GV mg "WORDS_OF_POOL" (.int 16)) (gF : FixK K mg "FIXED_WORDS_OF_POOL") :
    FnOk P w K mg base (CXN P w C0) 1 f fd ["words"] (spFixed K C0) := by
  obtain ⟨fa, as, gf, hT, has, hp⟩ := gF.ex
  refine okX F scFixed (fun vs H Q E h => ?_) (fun cdv A outer s H vs Q E hr h => ?_)
  · obtain ⟨a, ys, rfl, _⟩ := h
    rfl
  · obtain ⟨a, ys, rfl, hS, k⟩ := h
    refine ⟨_, pss_cons (ps_if (pt_cmpR op_ne (pe_callB call_len_seq (by rfl) gl PySem.boot_len (pa_cons (pv 0) pa_nil)) (pe_gl g16) (nomark _)) (pss_one (ps_raise0 rfl rfl Z rais)) pss_nil)
      (pss_one (ps_for PassesOwn.leaving rfl (pi_tup (pe_gl gf)) (pg_tup rfl (pgs_cons (pg_name (i := 1) scFixed.nd rfl (Or.inl rfl)) (pgs_cons (pg_name (i := 2) scFixed.nd rfl (Or.inl rfl)) pgs_nil)))
        (pss_one (ps_if (pt_cmpR op_ne (pe_ix ix_list (pv 0) (pv 1) (fun _ _ => rfl)) (pv 2) (nomark _)) (pss_one (ps_raise0 rfl rfl Z rais)) pss_nil)))), ?_⟩
    refine ⟨_, rfl, a, vS ys, rfl, .inl hS, rfl, _, rfl, ?_⟩
    rw [vS_len, int_dec]
    refine ite2 (fun e1 => ?_) (fun e1 => ?_)
    · have e1 : ¬ ys.length = 16 := by
        simp at e1
        omega
      rw [if_neg] at k
      · exact k
      · unfold fixedOk
        rw [decide_eq_false (by rw [List.length_map]; exact e1)]
        simp
    · have e1 : ys.length = 16 := by
        simp at e1
        omega
      refine ⟨fa, rfl, ⟨_, hT H⟩, for_tup (K := K) (a := fa) (xs := as.map V.ref) (fun i σ H' => ∃ v1 v2 : Option V, σ = [some (.ref a), v1, v2] ∧ H' = H ∧ ∀ j, j < i → ∀ p, fixedL[j]? = some p → (tls ys)[p.1]? = some (Mir.kw p.2))
        ⟨none, none, rfl, rfl, fun j hj => absurd hj (Nat.not_lt_zero _)⟩ (fun i σ H' _ _ => hT H') ?_ ?_⟩
      · rintro i x σ H' hi ⟨v1, v2, rfl, rfl, hall⟩
        rw [List.getElem?_map] at hi
        cases ea : as[i]? with
        | none => rw [ea] at hi; cases hi
        | some b =>
          rw [ea] at hi
          cases hi
          have hi7 : i < 7 := by rw [← has]; exact (List.getElem?_eq_some_iff.mp ea).1
          obtain ⟨p, hpi⟩ : ∃ p, fixedL[i]? = some p := ⟨fixedL[i]'(by show i < 7; exact hi7), List.getElem?_eq_getElem _⟩
          have hb := hp i b p ea hpi H'
          have hp16 := fixed_small i p hpi
          obtain ⟨y, hy, hya⟩ := vS_at (ys := ys) (i := p.1) (by omega)
          refine ⟨b, _, rfl, hb, rfl, _, _, rfl, _, _, rfl, rfl, ?_⟩
          refine ⟨_, rfl, _, rfl, a, _, _, _, rfl, rfl, hS, hya, _, rfl, rfl, _, rfl, ?_⟩
          rw [str_dec]
          have hty : (tls ys)[p.1]? = some (TL.tl y) := by rw [List.getElem?_map, hy]; rfl
          refine ite2 (fun e2 => ?_) (fun e2 => ?_)
          · have e2 : ¬ TL.tl y = Mir.kw p.2 := by simpa using e2
            rw [if_neg] at k
            · exact k
            · intro z
              unfold fixedOk at z
              rw [Bool.and_eq_true] at z
              have z2 := of_decide_eq_true (List.all_eq_true.mp z.2 p (List.mem_of_getElem? hpi))
              rw [hty] at z2
              exact e2 (Option.some.inj z2)
          · have e2 : TL.tl y = Mir.kw p.2 := by simpa using e2
            refine ⟨_, _, rfl, rfl, fun j hj q hq => ?_⟩
            by_cases hji : j = i
            · subst hji
              rw [hpi] at hq
              cases hq
              rw [hty, e2]
            · exact hall j (by omega) q hq
      · rintro σ H' ⟨v1, v2, rfl, rfl, hall⟩
        rw [if_pos] at k
        · exact k
        · unfold fixedOk
          rw [decide_eq_true (by rw [List.length_map]; exact e1), Bool.true_and]
          refine List.all_eq_true.mpr fun p hp => decide_eq_true ?_
          obtain ⟨j, hj⟩ := List.mem_iff_getElem?.mp hp
          exact hall j (by rw [List.length_map, has]; exact (List.getElem?_eq_some_iff.mp hj).1) p hj
end
end Od
set_option Elab.async false
set_option linter.all false
set_option maxRecDepth 100000
set_option maxHeartbeats 4000000
namespace Od
open PySem PySem.Spec PyProof.Rows L2
def seenS (l : List Str) : List (Key × V) := l.map fun (x : Str) => ((Sum.inr x : Key), V.bl true)
theorem seenS_len (l : List Str) : (seenS l).length = l.length := List.length_map _
theorem seenS_any (n : Str) : ∀ l : List Str, ((seenS l).any fun kv => decide (kv.1 = (Sum.inr n : Key))) = decide (n ∈ l)
  | [] => rfl
  | x :: l => by
    show (decide ((Sum.inr x : Key) = Sum.inr n) || (seenS l).any _) = _
    rw [seenS_any n l]
    by_cases h : n = x
    · subst h; simp
    · have : ¬ (Sum.inr x : Key) = Sum.inr n := fun e => h (Sum.inr.inj e).symm
      simp [this, h]
theorem seenS_some (l : List Str) (n : Str) : (valV (seenS l) (Sum.inr n)).isSome = decide (n ∈ l) := by rw [← valV_any, seenS_any]
theorem seenS_put {l : List Str} {n : Str} (h : ¬ n ∈ l) : putK (seenS l) (Sum.inr n) (.bl true) = seenS (l ++ [n]) := by
  have e : valV (seenS l) (Sum.inr n) = none := by
    cases q : valV (seenS l) (Sum.inr n) with
    | none => rfl
    | some v =>
      have := seenS_some l n
      rw [q, decide_eq_false h] at this
      cases this
  rw [putK_new _ e]
  unfold seenS
  rw [List.map_append]
  rfl
def Msk (S : List Addr) (H : Hp) : Hp := fun b => if b ∈ S then none else H b
theorem msk_same (S : List Addr) (H : Hp) : Same (Msk S H) H := fun b o e => by
  unfold Msk at e
  split at e
  · cases e
  · exact e
theorem msk_mono {S : List Addr} {H H' : Hp} (h : Same H H') : Same (Msk S H) (Msk S H') := fun b o e => by
  unfold Msk at e ⊢
  split at e
  · cases e
  · rename_i hb
    rw [if_neg hb]
    exact h b o e
theorem msk_at {S : List Addr} {H : Hp} {b : Addr} (h : ¬ b ∈ S) : Msk S H b = H b := if_neg h
theorem msk_upd {S : List Addr} {H : Hp} {b : Addr} {o : HO} (h : b ∈ S) : Msk S (upd H b o) = Msk S H := by
  funext c
  unfold Msk
  split
  · rfl
  · rename_i hc
    exact upd_ne fun e => hc (by rw [e]; exact h)
def In (S : List Addr) (H : Hp) : Prop := ∀ b ∈ S, ∃ o, H b = some o
theorem In.new {S : List Addr} {H : Hp} {b : Addr} (h : In S H) (e : H b = none) : ¬ b ∈ S := fun hb => by
  obtain ⟨o, q⟩ := h b hb
  rw [e] at q
  cases q
structure Pools (C : Addr) (H : Hp) (as : List Addr) (ms : List Mir.MPool) : Prop where
  len : as.length = ms.length
  at_ : ∀ (j : Nat) (a : Addr), as[j]? = some a → ∃ m, ms[j]? = some m ∧ PoolAt C H a m
theorem Pools.same {C : Addr} {H H' : Hp} {as : List Addr} {ms : List Mir.MPool} (L : Pools C H as ms) (e : Same H H') : Pools C H' as ms := ⟨L.len, fun j a h => let ⟨f, h1, h2⟩ := L.at_ j a h; ⟨f, h1, h2.same e⟩⟩
section
variable {P : Program} {w : World} {K : PySem.W.Frag} {mg : Str → Option Value} {base : Heap} {C0 : Addr}
def spDiffer (K : PySem.W.Frag) (C C0 : Addr) : Sp := fun vs H Q E => ∃ (l : Addr) (as : List Addr) (ms : List Mir.MPool), vs = [.ref l] ∧ SqL K H l (as.map V.ref) ∧ Pools C H as ms ∧ as.length ≤ 1000 ∧
  if decide ((ms.map (·.name)).Nodup) = true then (∀ H', Same H H' → Q .non H') else ∀ H', Same H H' → E (.ref C0) none H'
theorem scDiffer : FnScope ["pools", "seen", "pool"] ["pools"] (defScope s_check_names_differ) := ⟨rfl, rfl, rfl, by decide +kernel, rfl, by decide +kernel, by decide +kernel⟩
theorem ok_differ {f C : Addr} {fd : FuncData} (F : Fun K "check_names_differ" "check_names_differ" s_check_names_differ f fd) (T : TxtPool K C) (Z : Exn K mg "NoCard" C0) : FnOk P w K mg base (CXN P w C0) 1 f fd ["pools"] (spDiffer K C C0) := by
  refine okX F scDiffer (fun vs H Q E h => ?_) (fun cdv A outer s H vs Q E hr h => ?_)
  · obtain ⟨l, as, ms, rfl, _⟩ := h
    rfl
  · obtain ⟨l, as, ms, rfl, hS, hP, hl, k⟩ := h
    have hu := hu_of hr
    refine ⟨_, pss_cons (ps_set (i := 1) scDiffer.nd rfl (Or.inl rfl) pe_dnewK)
      (pss_one (ps_for PassesOwn.leaving rfl (pi_list (pv 0)) (pg_name (i := 2) scDiffer.nd rfl (Or.inl rfl))
        (pss_cons (ps_if (pt_cmp (pc_din hu (pe_fld (pv 2) rfl) (pv 1)) (by with_unfolding_all rfl)) (pss_one (ps_raise0 rfl rfl Z rais)) pss_nil)
        (pss_one (ps_dput hu (pv 1) (pe_fld (pv 2) rfl) pe_bl rfl))))), ?_⟩
    intro d hd
    have s0 : Same H (upd H d (.dK [])) := fun b o e => by rw [upd_ne (ne_of_none e hd)]; exact e
    refine ⟨_, rfl, l, rfl, ⟨_, s0.seq hS⟩, for_list (K := K) (a := l) (xs := as.map V.ref) (fun i σ H' => ∃ (v : Option V) (ns : List Str), σ = [some (.ref l), some (.ref d), v] ∧ Same H H' ∧ H' d = some (.dK (seenS ns)) ∧ ns.length ≤ i ∧ i ≤ 1000 ∧ ns.map TL.tl = (ms.take i).map (·.name) ∧ ((ms.take i).map (·.name)).Nodup)
      ⟨none, [], rfl, s0, upd_same, by simp, by simp, by simp, by simp⟩ (fun i σ H' _ ⟨_, _, _, e, _⟩ => e.seq hS) ?_ ?_⟩
    · rintro i y σ H' hi ⟨v, ns, rfl, s1, hD, hnl, hi2, hns, nd⟩
      rw [List.getElem?_map] at hi
      cases ea : as[i]? with
      | none => rw [ea] at hi; cases hi
      | some a =>
        rw [ea] at hi
        cases hi
        have hia : i < as.length := (List.getElem?_eq_some_iff.mp ea).1
        obtain ⟨m, hm, hpa⟩ := hP.at_ i a ea
        obtain ⟨dx, fl, fs, n, kd, h1, h2, h3, h4, h5⟩ := hpa.ex
        refine ⟨_, rfl, a, C, dx, _, _, rfl, s1 _ _ h1, T.cl, T.nN, pf_name _ _ _ _, _, rfl, d, _, rfl, DGet.k (k := Sum.inr n) hD, _, rfl, ?_⟩
        rw [seenS_some]
        have hin : n ∈ ns ↔ m.name ∈ (ms.take i).map (·.name) := by
          rw [← hns, ← h2]
          constructor
          · intro z
            exact List.mem_map.mpr ⟨n, z, rfl⟩
          · intro z
            obtain ⟨n', hn', e⟩ := List.mem_map.mp z
            rw [← TL.ext_tl e]
            exact hn'
        refine ite2 (fun e1 => ?_) (fun e1 => ?_)
        · have e1 := hin.mp (of_decide_eq_true e1)
          rw [if_neg] at k
          · exact k H' s1
          · intro z
            have z : (ms.map (·.name)).Nodup := of_decide_eq_true z
            obtain ⟨j, hj⟩ := List.mem_iff_getElem?.mp e1
            rw [List.map_take] at hj
            have hlt : j < i := by
              have := (List.getElem?_eq_some_iff.mp hj).1
              rw [List.length_take] at this
              omega
            rw [List.getElem?_take_of_lt hlt] at hj
            have hi3 : (ms.map (·.name))[i]? = some m.name := by rw [List.getElem?_map, hm]; rfl
            have := nd_ix z hj hi3
            omega
        · have e1 : ¬ n ∈ ns := ndec e1
          refine ⟨_, rfl, _, rfl, a, C, dx, _, _, rfl, s1 _ _ h1, T.cl, T.nN, pf_name _ _ _ _, d, _, rfl, DPut.k (k := Sum.inr n) hD ?_, ⟨_, ns ++ [n], rfl, fun b o e => ?_, ?_, ?_, ?_, ?_, ?_⟩⟩
          · rw [seenS_len]
            exact small1000 (by omega)
          · rw [upd_ne (ne_of_none e hd)]; exact s1 b o e
          · rw [upd_same, seenS_put e1]
          · rw [List.length_append, List.length_singleton]; omega
          · omega
          · rw [List.map_append, hns, take_snoc hm, List.map_append]
            show _ ++ [TL.tl n] = _ ++ [m.name]
            rw [h2]
          · rw [take_snoc hm, List.map_append]
            exact nd_snoc nd fun z => e1 (hin.mpr z)
    · rintro σ H' ⟨v, ns, rfl, s1, hD, hnl, hi2, hns, nd⟩
      rw [List.length_map, hP.len, List.take_length] at nd
      rw [if_pos (decide_eq_true nd)] at k
      exact k H' s1
def spFields (K : PySem.W.Frag) (C0 : Addr) : Sp := fun vs H Q E => ∃ (kd : Str) (size race : Nat) (l : Addr) (as : List Addr) (R : List (List Nat)) (S : List Addr), vs = [.str kd, .int (size : Int), .int (race : Int), .ref l] ∧ SqL K H l (as.map V.ref) ∧ In S H ∧ Lists (Msk S H) as R ∧ 1 ≤ race ∧ race ≤ R.length ∧
  match Mir.fieldsM (TL.tl kd) size race R with
  | some fs => ∀ (p : Addr) (bs : List Addr) (H' : Hp), Same H H' → ¬ p ∈ S → H' p = some (.lst (bs.map V.ref)) → Lists (Msk S H') bs fs → Q (.ref p) H'
  | none => E (.ref C0) none H
theorem scFields : FnScope ["kind", "size", "race", "races", "field"] ["kind", "size", "race", "races"] (defScope s_fields_of) := ⟨rfl, rfl, rfl, by decide +kernel, rfl, by decide +kernel, by decide +kernel⟩
theorem ok_fields {f : Addr} {fd : FuncData} (F : Fun K "fields_of" "fields_of" s_fields_of f fd) (Z : Exn K mg "NoCard" C0) (gl : mg "len" = none) : FnOk P w K mg base (CXN P w C0) 1 f fd ["kind", "size", "race", "races"] (spFields K C0) := by
  refine okX F scFields (fun vs H Q E h => ?_) (fun cdv A outer s H vs Q E hr h => ?_)
  · obtain ⟨kd, size, race, l, as, R, S, rfl, _⟩ := h
    rfl
  · obtain ⟨kd, size, race, l, as, R, S, rfl, hS, hI, hL, hr1, hr2, k⟩ := h
    refine ⟨_, pss_cons (ps_if (pt_cmpR op_eq (pv 0) pe_str (nomark _))
        (pss_cons (ps_if (pt_cmpR op_gt (pe_op op_sub (pe_op op_add (pv 2) (pv 1)) pe_int) (pe_callB call_len_seq (by rfl) gl PySem.boot_len (pa_cons (pv 3) pa_nil)) (nomark _)) (pss_one (ps_raise0 rfl rfl Z rais)) pss_nil)
        (pss_one (ps_ret (pe_slice sl_list (pv 3) (po_some (pe_op op_sub (pv 2) pe_int)) (po_some (pe_op op_add (pe_op op_sub (pv 2) pe_int) (pv 1))))))) pss_nil)
      (pss_cons (ps_set (i := 4) scFields.nd rfl (Or.inl rfl) (pe_ix ix_list (pv 3) (pe_op op_sub (pv 2) pe_int) (fun _ _ => rfl)))
      (pss_cons (ps_if (pt_cmpR op_lt (pe_callB call_len_seq (by rfl) gl PySem.boot_len (pa_cons (pv 4) pa_nil)) (pv 1) (nomark _)) (pss_one (ps_raise0 rfl rfl Z rais)) pss_nil)
      (pss_one (ps_ret (pe_lst (pa_cons (pv 4) pa_nil)))))), ?_⟩
    unfold Mir.fieldsM at k
    refine ⟨_, rfl, rfl, _, rfl, ?_⟩
    rw [str_dec]
    refine ite2 (fun e1 => ?_) (fun e1 => ?_)
    · have e1 := of_decide_eq_true e1
      rw [if_pos e1] at k
      refine ⟨_, rfl, _, rfl, _, _, rfl, rfl, _, _, rfl, rfl, _, rfl, l, _, rfl, .inl hS, _, _, rfl, rfl, _, rfl, ?_⟩
      rw [List.length_map, hL.len]
      refine ite2 (fun e2 => ?_) (fun e2 => ?_)
      · have e2 := of_decide_eq_true e2
        rw [if_pos (by omega)] at k
        exact k
      · have e2 := ndec e2
        rw [if_neg (by omega)] at k
        refine ⟨_, rfl, _, rfl, _, _, rfl, rfl, _, rfl, _, rfl, _, _, rfl, rfl, _, rfl, _, _, rfl, rfl, _, rfl, l, _, rfl, hS, fun p hp => ?_⟩
        have ea : (race : Int) - 1 = ((race - 1 : Nat) : Int) := by omega
        have eb : (race : Int) - 1 + (size : Int) = ((race - 1 + size : Nat) : Int) := by omega
        have ec : cutV (as.map V.ref) (some ((race : Int) - 1)) (some ((race : Int) - 1 + (size : Int))) = ((as.drop (race - 1)).take size).map V.ref := by
          unfold cutV
          rw [eb, ea, HT.sIx_nat, HT.sIx_nat, List.length_map, hL.len, Nat.min_eq_left (by omega), Nat.min_eq_left (by omega), List.map_take, List.map_drop]
          congr 1
          omega
        have s1 : Same H (upd H p (.lst (cutV (as.map V.ref) (some ((race : Int) - 1)) (some ((race : Int) - 1 + (size : Int)))))) := fun b o e => by rw [upd_ne (ne_of_none e hp)]; exact e
        refine k p ((as.drop (race - 1)).take size) _ s1 (hI.new hp) ?_ ⟨?_, fun j a hj => ?_⟩
        · rw [upd_same]
          exact congrArg (fun z => some (HO.lst z)) ec
        · rw [List.length_take, List.length_take, List.length_drop, List.length_drop, hL.len]
        · have hj0 := hj
          have hjs : j < size := by
            have := (List.getElem?_eq_some_iff.mp hj).1
            rw [List.length_take] at this
            omega
          rw [List.getElem?_take_of_lt hjs, List.getElem?_drop] at hj
          obtain ⟨g, hg, hc⟩ := hL.at_ _ a hj
          refine ⟨g, ?_, ?_⟩
          · rw [List.getElem?_take_of_lt hjs, List.getElem?_drop]
            exact hg
          · exact msk_mono s1 _ _ hc
    · have e1 := ndec e1
      rw [if_neg e1] at k
      have ea : (race : Int) - 1 = ((race - 1 : Nat) : Int) := by omega
      have hlt : race - 1 < as.length := by rw [hL.len]; omega
      have hga : as[race - 1]? = some as[race - 1] := List.getElem?_eq_getElem hlt
      obtain ⟨g, hg, hc⟩ := hL.at_ _ _ hga
      rw [hg, Option.bind_some] at k
      refine ⟨_, rfl, _, rfl, _, _, rfl, rfl, l, _, _, _, rfl, rfl, hS, at_of ea (by rw [List.getElem?_map, hga]; rfl), ?_⟩
      refine ⟨_, rfl, _, vN g, rfl, .inl (SqL.of (msk_same S H _ _ hc)), _, rfl, _, _, rfl, rfl, _, rfl, ?_⟩
      rw [vN_len]
      refine ite2 (fun e2 => ?_) (fun e2 => ?_)
      · have e2 := of_decide_eq_true e2
        rw [if_pos (by omega)] at k
        exact k
      · have e2 := ndec e2
        rw [if_neg (by omega)] at k
        refine ⟨_, rfl, (by show 1 ≤ sizeLine; decide), fun p hp => ?_⟩
        have s1 : Same H (upd H p (.lst [V.ref as[race - 1]])) := fun b o e => by rw [upd_ne (ne_of_none e hp)]; exact e
        refine k p [as[race - 1]] _ s1 (hI.new hp) (by rw [upd_same]; rfl) ⟨rfl, fun j a hj => ?_⟩
        match j, hj with
        | 0, hj =>
          cases hj
          exact ⟨g, rfl, msk_mono s1 _ _ hc⟩
        | j + 1, hj => simp at hj
end
end Od
set_option Elab.async false
set_option linter.all false
set_option maxRecDepth 100000
set_option maxHeartbeats 4000000
namespace Od
open PySem PySem.Spec PyProof.Rows L2
theorem seen_again {l : List Nat} {n : Nat} (h : n ∈ l) : putK (seenK l) (Sum.inl (n : Int)) (.bl true) = seenK l := by
  unfold putK
  rw [valV_any, seen_some, decide_eq_true h, if_pos rfl]
  unfold seenK
  rw [List.map_map]
  refine List.map_congr_left fun x hx => ?_
  show (if (Sum.inl (x : Int) : Key) = Sum.inl (n : Int) then ((Sum.inl (x : Int) : Key), V.bl true) else (Sum.inl (x : Int), V.bl true)) = _
  split <;> rfl
theorem seen_any_put (l : List Nat) (n : Nat) : ∃ l', putK (seenK l) (Sum.inl (n : Int)) (.bl true) = seenK l' ∧ (∀ x, x ∈ l' ↔ x ∈ l ∨ x = n) ∧ l'.length ≤ l.length + 1 := by
  by_cases h : n ∈ l
  · refine ⟨l, seen_again h, fun x => ⟨.inl, fun z => ?_⟩, by omega⟩
    rcases z with z | z
    · exact z
    · rw [z]; exact h
  · exact ⟨l ++ [n], seen_put h, fun x => by simp, by simp⟩
theorem drop3 {α : Type} {l : List α} {k : Nat} {a b c : α} (h1 : l[k]? = some a) (h2 : l[k + 1]? = some b) (h3 : l[k + 2]? = some c) : l.drop k = a :: b :: c :: l.drop (k + 3) := by
  rw [drop_cons h1, drop_cons h2, drop_cons h3]
theorem raceM_short {ys : List Mir.W} (h : ys.length < 2) : Mir.raceM ys = none := by
  match ys, h with
  | [], _ => rfl
  | [_], _ => rfl
section
variable {P : Program} {w : World} {K : PySem.W.Frag} {mg : Str → Option Value} {base : Heap} {C0 : Addr}
def spRace (K : PySem.W.Frag) (C0 : Addr) : Sp := fun vs H Q E => ∃ (a : Addr) (ys : List Str), vs = [.ref a] ∧ SqL K H a (vS ys) ∧ (∀ y ∈ ys, Wd y) ∧ ys.length ≤ 70000 ∧
  match Mir.raceM (tls ys) with
  | some f => ∀ (p : Addr) (H' : Hp), Same H H' → H p = none → H' p = some (.lst (vN f)) → Q (.ref p) H'
  | none => ∀ H', Same H H' → E (.ref C0) none H'
theorem scRace : FnScope ["words", "couple_words", "runners", "firsts", "seconds", "at", "first", "second", "runner"] ["words"] (defScope s_read_race) := ⟨rfl, rfl, rfl, by decide +kernel, rfl, by decide +kernel, by decide +kernel⟩
theorem ok_race {f fN : Addr} {fd fdN : FuncData} (F : Fun K "read_race" "read_race" s_read_race f fd) (FN : Fun K "read_number" "read_number" s_read_number fN fdN) (mgN : mg "read_number" = some (.ref fN)) (bN : Binds K fdN ["word", "lowest", "highest"] [])
    (Z : Exn K mg "NoCard" C0) (gl : mg "len" = none) (gi : mg "int" = none) (gr : mg "range" = none) (g5 : GV mg "LONGEST_NUMBER" (.int 5)) (gC : GV mg "MOST_COUPLES" (.int 8)) (gR : GV mg "MOST_RUNNERS" (.int 24)) :
    FnOk P w K mg base (CXN P w C0) 2 f fd ["words"] (spRace K C0) := by
  have G : FnOk P w K mg base (CXN P w C0) 1 fN fdN ["word", "lowest", "highest"] (spNum C0) := ok_num FN Z gl gi g5
  refine okX F scRace (fun vs H Q E h => ?_) (fun cdv A outer s H vs Q E hr h => ?_)
  · obtain ⟨a, ys, rfl, _⟩ := h
    rfl
  · obtain ⟨a, ys, rfl, hS, hW, hl, k⟩ := h
    have hu := hu_of hr
    refine ⟨_, pss_cons (ps_set (i := 1) scRace.nd rfl (Or.inl rfl) (pe_op op_sub (pe_callB call_len_seq (by rfl) gl PySem.boot_len (pa_cons (pv 0) pa_nil)) pe_int))
      (pss_cons (ps_if (PW.pt (pw_or (pt_cmpR op_lt (pv 1) pe_int (nomark _)) (pw_or (pt_cmpR op_ne (pe_op op_mod (pv 1) pe_int) pe_int (nomark _)) (pw_or1 (pt_cmpR op_gt (pe_op op_fdiv (pv 1) pe_int) (pe_gl gC) (nomark _)))))) (pss_one (ps_raise0 rfl rfl Z rais)) pss_nil)
      (pss_cons (ps_set (i := 2) scRace.nd rfl (Or.inl rfl) (pe_call G hr rfl mgN FN.kp bN .nil pas (pa_cons (pe_ix ix_list (pv 0) pe_int (fun _ _ => rfl)) (pa_cons pe_int (pa_cons (pe_gl gR) pa_nil)))))
      (pss_cons (ps_set (i := 3) scRace.nd rfl (Or.inl rfl) pe_dnewK)
      (pss_cons (ps_set (i := 4) scRace.nd rfl (Or.inr rfl) pe_dnewK)
      (pss_cons (ps_for PassesOwn.leaving rfl (pi_range3 rfl gr (pa_cons pe_int (pa_cons (pe_callB call_len_seq (by rfl) gl PySem.boot_len (pa_cons (pv 0) pa_nil)) (pa_cons pe_int pa_nil)))) (pg_name (i := 5) scRace.nd rfl (Or.inl rfl))
        (pss_cons (ps_if (pt_cmpR op_ne (pe_ix ix_list (pv 0) (pv 5) (fun _ _ => rfl)) pe_str (nomark _)) (pss_one (ps_raise0 rfl rfl Z rais)) pss_nil)
        (pss_cons (ps_set (i := 6) scRace.nd rfl (Or.inl rfl) (pe_call G hr rfl mgN FN.kp bN .nil pas (pa_cons (pe_ix ix_list (pv 0) (pe_op op_add (pv 5) pe_int) (fun _ _ => rfl)) (pa_cons pe_int (pa_cons (pv 2) pa_nil)))))
        (pss_cons (ps_set (i := 7) scRace.nd rfl (Or.inl rfl) (pe_call G hr rfl mgN FN.kp bN .nil pas (pa_cons (pe_ix ix_list (pv 0) (pe_op op_add (pv 5) pe_int) (fun _ _ => rfl)) (pa_cons pe_int (pa_cons (pv 2) pa_nil)))))
        (pss_cons (ps_if (PW.pt (pw_or (pt_cmpR op_ge (pv 6) (pv 7) (nomark _)) (pw_or (pt_cmp (pc_din hu (pv 6) (pv 4)) (by with_unfolding_all rfl)) (pw_or (pt_cmp (pc_din hu (pv 7) (pv 3)) (by with_unfolding_all rfl)) (pw_or1 (pt_cmp (pc_din hu (pv 7) (pv 4)) (by with_unfolding_all rfl))))))) (pss_one (ps_raise0 rfl rfl Z rais)) pss_nil)
        (pss_cons (ps_dput hu (pv 3) (pv 6) pe_bl rfl)
        (pss_one (ps_dput hu (pv 4) (pv 7) pe_bl rfl))))))))
      (pss_one (ps_ret (pe_lc (own := [("runner", 8)]) rfl scRace.nd (pi_range2 rfl gr (pa_cons pe_int (pa_cons (pe_op op_add (pv 2) pe_int) pa_nil))) (show BlkOk ["words", "couple_words", "runners", "firsts", "seconds", "at", "first", "second", "runner"] (defScope s_read_race) _ _ from blkOk_by (by decide +kernel)) (fun _ _ _ _ _ => pg_name (i := 8) scRace.nd rfl (Or.inl rfl)) (fun _ _ _ _ _ => pts_one (pt_cmp (pc_dnotin hu (pv 8) (pv 4)) (by with_unfolding_all rfl))) (fun _ _ _ _ _ => pv 8))))))))), ?_⟩
    refine ⟨_, rfl, a, vS ys, rfl, .inl hS, _, _, rfl, rfl, ?_⟩
    rw [vS_len]
    refine ⟨_, rfl, _, _, rfl, rfl, _, rfl, ?_⟩
    refine ite2 (fun e1 => ?_) (fun e1 => ?_)
    · have e1 : (ys.length : Int) - 2 < 0 := of_decide_eq_true e1
      refine iteT ?_
      rw [raceM_short (by rw [List.length_map]; omega)] at k
      exact k H (Same.refl H)
    have e1 : ¬ (ys.length : Int) - 2 < 0 := ndec e1
    obtain ⟨y0, y1, r, rfl⟩ : ∃ y0 y1 r, ys = y0 :: y1 :: r := by
      match ys, e1 with
      | [], e1 => simp at e1
      | [_], e1 => simp at e1
      | y0 :: y1 :: r, _ => exact ⟨y0, y1, r, rfl⟩
    have hcw : ((y0 :: y1 :: r).length : Int) - 2 = (r.length : Int) := by simp only [List.length_cons]; omega
    have hrace : Mir.raceM (tls (y0 :: y1 :: r)) = if (tls r).length % 3 ≠ 0 ∨ 8 < (tls r).length / 3 then none else (Mir.num 2 24 (TL.tl y1)).bind fun n => (Mir.coup n [] [] (tls r)).map (Mir.heads n) := rfl
    rw [hrace, List.length_map] at k
    dsimp only
    rw [hcw]
    refine ⟨_, rfl, _, _, rfl, rfl, (by show (0 : Int) < 3; decide), rfl, _, rfl, ?_⟩
    rw [int_dec]
    refine ite2 (fun e2 => ?_) (fun e2 => ?_)
    · have e2 : ¬ (r.length : Int) % 3 = 0 := by simpa using e2
      refine iteT ?_
      rw [if_pos (.inl (by omega))] at k
      exact k H (Same.refl H)
    have e2 : (r.length : Int) % 3 = 0 := by simpa using e2
    refine ⟨_, rfl, _, _, rfl, rfl, ⟨by decide, by decide⟩, _, _, rfl, rfl, _, rfl, ?_⟩
    refine ite2 (fun e3 => ?_) (fun e3 => ?_)
    · have e3 := of_decide_eq_true e3
      rw [if_pos (.inr (by omega))] at k
      exact k H (Same.refl H)
    have e3 := ndec e3
    rw [if_neg (by omega)] at k
    refine ⟨_, rfl, a, _, _, _, rfl, rfl, hS, atI_nat (xs := vS (y0 :: y1 :: r)) (j := 1) (v := V.str y1) rfl, y1, 2, 24, rfl, hW y1 (by simp), ?_⟩
    cases hn : Mir.num 2 24 (TL.tl y1) with
    | none =>
      rw [hn] at k
      exact k H (Same.refl H)
    | some n =>
      rw [hn, Option.bind_some] at k
      intro d1 hd1 d2 hd2
      have hne : d2 ≠ d1 := by
        rintro rfl
        rw [upd_same] at hd2
        cases hd2
      have hd2' : H d2 = none := by
        rw [upd_ne hne] at hd2
        exact hd2
      have s0 : Same H (upd (upd H d1 (.dK [])) d2 (.dK [])) := fun b o e => by
        rw [upd_ne (ne_of_none e hd2'), upd_ne (ne_of_none e hd1)]
        exact e
      refine ⟨_, rfl, a, _, rfl, .inl (s0.seq hS), 2, ((y0 :: y1 :: r).length : Nat), 3, ((y0 :: y1 :: r).length - 2) / 3, ?_, rg3 (by omega) (by simp only [List.length_cons]; omega) (by simp only [List.length_cons]; omega), ?_⟩
      · rw [vS_len]
      have hlen : ((y0 :: y1 :: r).length - 2) / 3 = r.length / 3 := by simp only [List.length_cons]; omega
      rw [hlen]
      refine for_rangeC (lo := 2) (c := 3) (n := r.length / 3)
        (fun i σ H' => ∃ (v5 v6 v7 : Option V) (fs ss fk : List Nat), σ = [some (.ref a), some (.int (r.length : Int)), some (.int (n : Int)), some (.ref d1), some (.ref d2), v5, v6, v7, none] ∧ Same H H' ∧ H' d1 = some (.dK (seenK fk)) ∧ H' d2 = some (.dK (seenK ss)) ∧
          (∀ x, x ∈ fk ↔ x ∈ fs) ∧ fk.length ≤ i ∧ ss.length ≤ i ∧ i ≤ 100 ∧ Mir.coup n [] [] (tls r) = Mir.coup n fs ss ((tls r).drop (3 * i)))
        ⟨none, none, none, [], [], [], rfl, s0, by rw [upd_ne hne.symm, upd_same]; rfl, upd_same, by simp, by simp, by simp, by simp, rfl⟩ ?_ ?_
      · rintro i σ H' hi ⟨v5, v6, v7, fs, ss, fk, rfl, s1, hD1, hD2, hfk, hl1, hl2, hi100, hco⟩
        have hb : 3 * i + 2 < r.length := by omega
        obtain ⟨ya, hya⟩ : ∃ y, r[3 * i]? = some y := ⟨r[3 * i], List.getElem?_eq_getElem (by omega)⟩
        obtain ⟨yb, hyb⟩ : ∃ y, r[3 * i + 1]? = some y := ⟨r[3 * i + 1], List.getElem?_eq_getElem (by omega)⟩
        obtain ⟨yc, hyc⟩ : ∃ y, r[3 * i + 2]? = some y := ⟨r[3 * i + 2], List.getElem?_eq_getElem (by omega)⟩
        have ga : (vS (y0 :: y1 :: r))[3 * i + 2]? = some (V.str ya) := vS_get hya
        have gb : (vS (y0 :: y1 :: r))[3 * i + 3]? = some (V.str yb) := vS_get hyb
        have gc : (vS (y0 :: y1 :: r))[3 * i + 4]? = some (V.str yc) := vS_get hyc
        have ea : (2 : Int) + (i : Nat) * 3 = ((3 * i + 2 : Nat) : Int) := by omega
        have eb : (2 : Int) + (i : Nat) * 3 + 1 = ((3 * i + 3 : Nat) : Int) := by omega
        have ec : (2 : Int) + (i : Nat) * 3 + 2 = ((3 * i + 4 : Nat) : Int) := by omega
        have hdrop : (tls r).drop (3 * i) = TL.tl ya :: TL.tl yb :: TL.tl yc :: (tls r).drop (3 * (i + 1)) := drop3 (by rw [List.getElem?_map, hya]; rfl) (by rw [List.getElem?_map, hyb]; rfl) (by rw [List.getElem?_map, hyc]; rfl)
        have hstep : Mir.coup n fs ss ((tls r).drop (3 * i)) = if TL.tl ya = Mir.kw "couple" then (Mir.num 1 n (TL.tl yb)).bind fun x => (Mir.num 1 n (TL.tl yc)).bind fun y =>
            if y ≤ x ∨ x ∈ ss ∨ y ∈ fs ∨ y ∈ ss then none else Mir.coup n (fs ++ [x]) (ss ++ [y]) ((tls r).drop (3 * (i + 1))) else none := by
          rw [hdrop]
          rfl
        have wmem : ∀ {j : Nat} {y : Str}, r[j]? = some y → Wd y := fun h => hW _ (List.mem_cons_of_mem _ (List.mem_cons_of_mem _ (List.mem_of_getElem? h)))
        have bad : Mir.coup n fs ss ((tls r).drop (3 * i)) = none → E (.ref C0) none H' := fun z => by
          rw [hco, z] at k
          exact k H' s1
        refine ⟨_, rfl, _, rfl, a, _, _, _, rfl, rfl, s1.seq hS, at_of ea ga, rfl, _, rfl, ?_⟩
        rw [str_dec]
        refine ite2 (fun e4 => ?_) (fun e4 => ?_)
        · have e4 : ¬ TL.tl ya = Mir.kw "couple" := by simpa using e4
          exact bad (by rw [hstep, if_neg e4])
        have e4 : TL.tl ya = Mir.kw "couple" := by simpa using e4
        rw [if_pos e4] at hstep
        refine ⟨_, rfl, _, rfl, _, _, rfl, rfl, a, _, _, _, rfl, rfl, s1.seq hS, at_of eb gb, _, rfl, yb, 1, n, rfl, wmem hyb, ?_⟩
        cases hx : Mir.num 1 n (TL.tl yb) with
        | none =>
          rw [hx] at hstep
          exact bad hstep
        | some x =>
          rw [hx, Option.bind_some] at hstep
          refine ⟨_, rfl, _, rfl, _, _, rfl, rfl, a, _, _, _, rfl, rfl, s1.seq hS, at_of ec gc, _, rfl, yc, 1, n, rfl, wmem hyc, ?_⟩
          cases hy : Mir.num 1 n (TL.tl yc) with
          | none =>
            rw [hy] at hstep
            exact bad hstep
          | some y =>
            rw [hy, Option.bind_some] at hstep
            refine ⟨_, rfl, _, rfl, _, _, rfl, rfl, _, rfl, ?_⟩
            refine ite2 (fun e5 => ?_) (fun e5 => ?_)
            · have e5 : (y : Int) ≤ (x : Int) := of_decide_eq_true e5
              exact iteT (bad (by rw [hstep, if_pos (.inl (by omega))]))
            have e5 : ¬ (y : Int) ≤ (x : Int) := ndec e5
            refine ⟨_, rfl, _, rfl, d2, _, rfl, DGet.k (k := Sum.inl (x : Int)) hD2, _, rfl, ?_⟩
            rw [seen_some]
            refine ite2 (fun e6 => ?_) (fun e6 => ?_)
            · exact iteT (bad (by rw [hstep, if_pos (.inr (.inl (of_decide_eq_true e6)))]))
            have e6 := ndec e6
            refine ⟨_, rfl, _, rfl, d1, _, rfl, DGet.k (k := Sum.inl (y : Int)) hD1, _, rfl, ?_⟩
            rw [seen_some]
            refine ite2 (fun e7 => ?_) (fun e7 => ?_)
            · exact iteT (bad (by rw [hstep, if_pos (.inr (.inr (.inl ((hfk y).mp (of_decide_eq_true e7)))))]))
            have e7 : ¬ y ∈ fs := fun z => e7 (decide_eq_true ((hfk y).mpr z))
            refine ⟨_, rfl, _, rfl, d2, _, rfl, DGet.k (k := Sum.inl (y : Int)) hD2, _, rfl, ?_⟩
            rw [seen_some]
            refine ite2 (fun e8 => ?_) (fun e8 => ?_)
            · exact bad (by rw [hstep, if_pos (.inr (.inr (.inr (of_decide_eq_true e8))))])
            have e8 := ndec e8
            rw [if_neg (by rintro (z | z | z | z); exact e5 (by omega); exact e6 z; exact e7 z; exact e8 z)] at hstep
            obtain ⟨fk', hput, hfk', hfl⟩ := seen_any_put fk x
            refine ⟨_, rfl, _, rfl, d1, _, rfl, DPut.k (k := Sum.inl (x : Int)) hD1 ?_, ?_⟩
            · rw [seen_len]
              exact small1000 (by omega)
            refine ⟨_, rfl, _, rfl, d2, _, rfl, DPut.k (k := Sum.inl (y : Int)) (kvs := seenK ss) (by rw [upd_ne hne]; exact hD2) ?_, ?_⟩
            · rw [seen_len]
              exact small1000 (by omega)
            refine ⟨_, _, _, fs ++ [x], ss ++ [y], fk', rfl, fun b o e => ?_, ?_, ?_, fun z => ?_, by omega, ?_, by omega, ?_⟩
            · rw [upd_ne (ne_of_none e hd2'), upd_ne (ne_of_none e hd1)]
              exact s1 b o e
            · rw [upd_ne hne.symm, upd_same, hput]
            · rw [upd_same, seen_put e8]
            · rw [hfk' z, hfk z]
              simp
            · rw [List.length_append, List.length_singleton]; omega
            · rw [hco, hstep]
      · rintro σ H' ⟨v5, v6, v7, fs, ss, fk, rfl, s1, hD1, hD2, hfk, hl1, hl2, hi100, hco⟩
        have hend : (tls r).drop (3 * (r.length / 3)) = [] := List.drop_of_length_le (by rw [List.length_map]; omega)
        rw [hend] at hco
        rw [hco] at k
        have k : ∀ (p : Addr) (H' : Hp), Same H H' → H p = none → H' p = some (.lst (vN (Mir.heads n ss))) → Q (.ref p) H' := k
        have hn24 : n ≤ 24 := by
          unfold Mir.num at hn
          split at hn
          · rename_i hh
            cases hn
            exact hh.2.2.2.2.2
          · cases hn
        refine ⟨_, rfl, _, _, rfl, rfl, 1, (n : Int) + 1, rfl, ⟨by omega, by omega, by omega, by omega⟩, fun D hD => ?_⟩
        have hto : ((n : Int) + 1 - 1).toNat = n := by omega
        rw [hto]
        have hDd2 : D ≠ d2 := by
          rintro rfl
          rw [hD2] at hD
          cases hD
        have s2 : Same H (upd H' D (.lst [])) := fun b o e => by
          have := s1 b o e
          rw [upd_ne (ne_of_none this hD)]
          exact this
        refine lc_range (lo := 1) (n := n) (fun i H'' => Same H H'' ∧ H'' d2 = some (.dK (seenK ss)) ∧ H'' D = some (.lst (vN ((((List.range n).map (· + 1)).take i).filter fun x => !decide (x ∈ ss)))))
          ⟨s2, by rw [upd_ne hDd2.symm]; exact hD2, upd_same⟩ ?_ ?_
        · rintro i H'' hi ⟨s3, hD3, hD4⟩
          have hitem : ((List.range n).map (· + 1))[i]? = some (i + 1) := by rw [List.getElem?_map, List.getElem?_range hi]; rfl
          have e1i : (1 : Int) + (i : Nat) = ((i + 1 : Nat) : Int) := by omega
          refine ⟨rfl, ?_⟩
          rw [e1i]
          refine ⟨_, rfl, _, rfl, d2, _, rfl, DGet.k (k := Sum.inl ((i + 1 : Nat) : Int)) hD3, _, rfl, ?_⟩
          rw [seen_some, take_snoc hitem, List.filter_append]
          refine ite2 (fun e9 => ?_) (fun e9 => ?_)
          · refine ⟨_, rfl, _, hD4, ?_, fun b o e => ?_, ?_, ?_⟩
            · rw [vN_len]
              refine Nat.lt_of_le_of_lt (List.length_filter_le _ _) ?_
              rw [List.length_take, List.length_map, List.length_range]
              exact small1000 (by omega)
            · by_cases hb : b = D
              · subst hb
                have := s1 b o e
                rw [hD] at this
                cases this
              · rw [upd_ne hb]; exact s3 b o e
            · rw [upd_ne hDd2.symm]; exact hD3
            · rw [upd_same, List.filter_cons, if_pos e9]
              unfold vN
              rw [List.map_append]
              rfl
          · refine ⟨s3, hD3, ?_⟩
            rw [List.filter_cons, if_neg e9, List.filter_nil, List.append_nil]
            exact hD4
        · rintro H'' ⟨s3, hD3, hD4⟩
          rw [List.take_of_length_le (by rw [List.length_map, List.length_range]; exact Nat.le_refl _)] at hD4
          exact k D H'' s3 (s1.free hD) hD4
end
end Od
set_option Elab.async false
set_option linter.all false
set_option maxRecDepth 100000
set_option maxHeartbeats 4000000
namespace Od
open PySem PySem.Spec PyProof.Rows L2
theorem for_str {x : Str} {g : TG} {tb : TS} {D : Ends} {σ : L2.St} {H : Hp} (Pv : Nat → L2.St → Hp → Prop) (h0 : Pv 0 σ H)
    (hs : ∀ i c σ H, (TL.tl x)[i]? = some c → Pv i σ H → g (.str ⟨#[c]⟩) σ H fun σ2 H2 => tb { D with nx := Pv (i + 1), ct := Pv (i + 1), bk := D.nx } σ2 H2) (hd : ∀ σ H, Pv (TL.tl x).length σ H → D.nx σ H) :
    ∃ W : Nat → Nat → L2.St → Hp → Prop, (∃ m, W 0 m σ H) ∧ ∀ i m σ H, W i m σ H →
      ((Its x).stop i H ∧ D.nx σ H) ∨ ((Its x).go i H ∧ ∃ N : L2.St → Hp → Prop, (∀ σ' H', N σ' H' → ∃ m', m' < m ∧ W (i + 1) m' σ' H') ∧ ∀ v H', (Its x).yld i H v H' → g v σ H' fun σ2 H2 => tb { D with nx := N, ct := N, bk := D.nx } σ2 H2) := by
  have hz : x.cps.size = (TL.tl x).length := Array.length_toList.symm
  refine ⟨fun i m σ H => m = (TL.tl x).length - i ∧ i ≤ (TL.tl x).length ∧ Pv i σ H, ⟨_, rfl, Nat.zero_le _, h0⟩, ?_⟩
  rintro i m σ H ⟨rfl, hi, p⟩
  by_cases hlt : i < (TL.tl x).length
  · refine .inr ⟨by show i < x.cps.size; omega, Pv (i + 1), fun σ' H' p' => ⟨(TL.tl x).length - (i + 1), by omega, rfl, hlt, p'⟩, fun v H' y => ?_⟩
    obtain ⟨e, c, hc, ev⟩ := y
    subst e ev
    refine hs i c σ _ ?_ p
    show x.cps.toList[i]? = some c
    rw [Array.getElem?_toList]
    exact hc
  · have e : i = (TL.tl x).length := by omega
    subst e
    exact .inl ⟨by show x.cps.size ≤ _; omega, hd σ H p⟩
theorem vS_app (a b : List Str) : vS (a ++ b) = vS a ++ vS b := List.map_append
theorem tls_app (a b : List Str) : tls (a ++ b) = tls a ++ tls b := List.map_append
def one (c : Nat) : Str := ⟨#[c]⟩
def sgK (l : List Nat) : List (Key × V) := l.map fun (c : Nat) => ((Sum.inl (c : Int) : Key), V.str (one c))
theorem sg_len (l : List Nat) : (sgK l).length = l.length := List.length_map _
theorem sg_none {n : Nat} : ∀ {l : List Nat}, ¬ n ∈ l → valV (sgK l) (Sum.inl (n : Int)) = none
  | [], _ => rfl
  | x :: l, h => by
    have e2 : valV (sgK (x :: l)) (Sum.inl (n : Int)) = valV (sgK l) (Sum.inl (n : Int)) := valV_neg (p := ((Sum.inl (x : Int) : Key), V.str (one x))) fun z => h (by rw [inl_eq.mp z]; exact List.mem_cons_self)
    rw [e2]
    exact sg_none fun z => h (List.mem_cons_of_mem _ z)
theorem sg_val {n : Nat} : ∀ {l : List Nat}, n ∈ l → valV (sgK l) (Sum.inl (n : Int)) = some (V.str (one n))
  | x :: l, h => by
    by_cases e : x = n
    · subst e
      exact valV_pos (p := ((Sum.inl (x : Int) : Key), V.str (one x))) rfl
    · have e2 : valV (sgK (x :: l)) (Sum.inl (n : Int)) = valV (sgK l) (Sum.inl (n : Int)) := valV_neg (p := ((Sum.inl (x : Int) : Key), V.str (one x))) fun z => e (inl_eq.mp z)
      rw [e2]
      refine sg_val ?_
      rcases List.mem_cons.mp h with h | h
      · exact absurd h.symm e
      · exact h
theorem sg_new {l : List Nat} {n : Nat} (h : ¬ n ∈ l) : putK (sgK l) (Sum.inl (n : Int)) (.str (one n)) = sgK (l ++ [n]) := by
  rw [putK_new _ (sg_none h)]
  unfold sgK
  rw [List.map_append]
  rfl
abbrev signsS : Str := Str.ofString "abcdefghijklmnopqrstuvwxyz0123456789 \n"
def signsL : List Nat := [97, 98, 99, 100, 101, 102, 103, 104, 105, 106, 107, 108, 109, 110, 111, 112, 113, 114, 115, 116, 117, 118, 119, 120, 121, 122, 48, 49, 50, 51, 52, 53, 54, 55, 56, 57, 32, 10]
theorem tl_signs : TL.tl signsS = signsL := by decide +kernel
theorem signs_nd : signsL.Nodup := by decide
theorem sign_asc {c : Nat} (h : Mir.isSign c = true) : c < 128 := by
  unfold Mir.isSign at h
  simp only [Bool.or_eq_true, Bool.and_eq_true, beq_iff_eq, decide_eq_true_eq] at h
  omega
theorem signs_b : ∀ c : Fin 128, decide (c.val ∈ signsL) = Mir.isSign c.val := by decide +kernel
theorem signs_lt : ∀ c ∈ signsL, c < 128 := by decide +kernel
theorem signs_in (c : Nat) : c ∈ signsL ↔ Mir.isSign c = true := by
  by_cases h : c < 128
  · have e : decide (c ∈ signsL) = Mir.isSign c := signs_b ⟨c, h⟩
    rw [← e]
    exact decide_eq_true_iff.symm
  · exact ⟨fun m => absurd (signs_lt c m) h, fun m => absurd (sign_asc m) h⟩
theorem join_one : ∀ cs : List Nat, TL.joinL [] (cs.map fun c => [c]) = cs
  | [] => rfl
  | [c] => rfl
  | c :: d :: r => by
    have ih := join_one (d :: r)
    show [c] ++ [] ++ TL.joinL [] ((d :: r).map fun c => [c]) = _
    rw [ih]
    rfl
theorem cut_spl (s : Nat) : ∀ (l acc : List Nat), TL.spl [s] 0 acc l = Mir.cut s acc l
  | [], acc => rfl
  | c :: r, acc => by
    have hp : TL.pre [s] (c :: r) = decide (c = s) := by
      show ([c] == [s]) = _
      by_cases h : c = s
      · subst h; simp
      · simp [h]
    unfold Mir.cut
    by_cases h : c = s
    · rw [TL.spl_hit (by rw [hp]; exact decide_eq_true h), if_pos h]
      show acc :: TL.spl [s] 0 [] r = _
      rw [cut_spl s r []]
    · rw [TL.spl_miss (by rw [hp]; exact decide_eq_false h), if_neg h, cut_spl s r]
theorem split_cut (x : Str) (s : Nat) (y : Str) (hy : TL.tl y = [s]) (h256 : y.cps.all (· < 256) = true) : tls (Txt.split x y) = Mir.cut s [] (TL.tl x) := by
  have e := TL.split_spl x y (by rw [hy]; simp) (TL.kind_ok h256)
  rw [hy, cut_spl] at e
  exact e
theorem cut_len (s : Nat) : ∀ (l acc : List Nat), (Mir.cut s acc l).length ≤ l.length + 1
  | [], acc => by simp [Mir.cut]
  | c :: r, acc => by
    unfold Mir.cut
    split
    · rw [List.length_cons, List.length_cons]
      have := cut_len s r []
      omega
    · rw [List.length_cons]
      have := cut_len s r (acc ++ [c])
      omega
theorem cut_mem (s : Nat) : ∀ (l acc : List Nat) (p : List Nat), p ∈ Mir.cut s acc l → p.length ≤ acc.length + l.length ∧ ∀ c ∈ p, c ∈ acc ∨ c ∈ l
  | [], acc, p, h => by
    have : p = acc := by simpa [Mir.cut] using h
    subst this
    exact ⟨by simp, fun c hc => .inl hc⟩
  | d :: r, acc, p, h => by
    unfold Mir.cut at h
    split at h
    · rcases List.mem_cons.mp h with h | h
      · subst h
        exact ⟨by omega, fun c hc => .inl hc⟩
      · obtain ⟨h1, h2⟩ := cut_mem s r [] p h
        have h1 : p.length ≤ 0 + r.length := h1
        refine ⟨by rw [List.length_cons]; omega, fun c hc => ?_⟩
        rcases h2 c hc with z | z
        · cases z
        · exact .inr (List.mem_cons_of_mem _ z)
    · obtain ⟨h1, h2⟩ := cut_mem s r (acc ++ [d]) p h
      refine ⟨by simp only [List.length_append, List.length_nil, List.length_cons] at h1 ⊢; omega, fun c hc => ?_⟩
      rcases h2 c hc with z | z
      · rcases List.mem_append.mp z with z | z
        · exact .inl z
        · exact .inr (by rw [List.mem_singleton.mp z]; exact List.mem_cons_self)
      · exact .inr (List.mem_cons_of_mem _ z)
section
variable {P : Program} {w : World} {K : PySem.W.Frag} {mg : Str → Option Value} {base : Heap} {C0 : Addr}
def spText (K : PySem.W.Frag) (C0 : Addr) : Sp := fun vs H Q E => ∃ (a : Addr) (cs : List Nat), vs = [.ref a] ∧ SqL K H a (vN cs) ∧ cs.length ≤ 66000 ∧
  if cs.all Mir.isSign = true then (∀ (x : Str) (H' : Hp), Same H H' → TL.tl x = cs → Q (.str x) H') else ∀ H', Same H H' → E (.ref C0) none H'
theorem scText : FnScope ["card", "sign_of_byte", "sign", "signs", "byte"] ["card"] (defScope s_text_of) := ⟨rfl, rfl, rfl, by decide +kernel, rfl, by decide +kernel, by decide +kernel⟩
theorem sum_ones (cs : List Nat) : ((cs.map one).map (·.length)).sum = cs.length := by
  induction cs with
  | nil => rfl
  | cons c cs ih =>
    rw [List.map_cons, List.map_cons, List.sum_cons, ih, List.length_cons]
    show 1 + _ = _
    omega
theorem ok_text {f : Addr} {fd : FuncData} (F : Fun K "text_of" "text_of" s_text_of f fd) (Z : Exn K mg "NoCard" C0) (go : mg "ord" = none) (gS : GV mg "SIGNS" (.str signsS)) : FnOk P w K mg base (CXN P w C0) 1 f fd ["card"] (spText K C0) := by
  refine okX F scText (fun vs H Q E h => ?_) (fun cdv A outer s H vs Q E hr h => ?_)
  · obtain ⟨a, cs, rfl, _⟩ := h
    rfl
  · obtain ⟨a, cs, rfl, hS, hl, k⟩ := h
    have hu := hu_of hr
    refine ⟨_, pss_cons (ps_set (i := 1) scText.nd rfl (Or.inl rfl) pe_dnewK)
      (pss_cons (ps_for PassesOwn.leaving rfl (pi_str (pe_gl gS)) (pg_name (i := 2) scText.nd rfl (Or.inl rfl)) (pss_one (ps_dput hu (pv 1) (pe_callB call_ord (by rfl) go PyProof.Rows.boot_ord (pa_cons (pv 2) pa_nil)) (pv 2) rfl)))
      (pss_cons (ps_set (i := 3) scText.nd rfl (Or.inl rfl) (pe_lst pa_nil))
      (pss_cons (ps_for PassesOwn.leaving rfl (pi_list (pv 0)) (pg_name (i := 4) scText.nd rfl (Or.inl rfl))
        (pss_cons (ps_if (pt_cmp (pc_dnotin hu (pv 4) (pv 1)) (by with_unfolding_all rfl)) (pss_one (ps_raise0 rfl rfl Z rais)) pss_nil)
        (pss_one (ps_expr (pe_bm PySem.F.plainAttrs_list PySem.F.slot_list_append PySem.F.type_list_append mt_append (pv 3) (pa_cons (pe_dget hu (pv 1) (pv 4) (fun _ _ => rfl)) pa_nil))))))
      (pss_one (ps_ret (pe_join pe_str (pv 3))))))), ?_⟩
    intro d hd
    have s0 : Same H (upd H d (.dK [])) := fun b o e => by rw [upd_ne (ne_of_none e hd)]; exact e
    refine ⟨signsS, rfl, for_str (x := signsS) (fun i σ H' => ∃ v : Option V, σ = [some (.ref a), some (.ref d), v, none, none] ∧ Same H H' ∧ H' d = some (.dK (sgK (signsL.take i)))) ⟨none, rfl, s0, upd_same⟩ ?_ ?_⟩
    · rintro i c σ H' hi ⟨v, rfl, s1, hD⟩
      rw [tl_signs] at hi
      have hnm : ¬ c ∈ signsL.take i := by
        intro z
        obtain ⟨j, hj⟩ := List.mem_iff_getElem?.mp z
        have hlt : j < i := by
          have := (List.getElem?_eq_some_iff.mp hj).1
          rw [List.length_take] at this
          omega
        rw [List.getElem?_take_of_lt hlt] at hj
        have := nd_ix signs_nd hj hi
        omega
      refine ⟨_, rfl, _, rfl, _, rfl, _, rfl, rfl, d, _, rfl, DPut.k (k := Sum.inl (c : Int)) hD ?_, ⟨_, rfl, fun b o e => ?_, ?_⟩⟩
      · rw [sg_len, List.length_take]
        have : signsL.length = 38 := rfl
        exact small1000 (by omega)
      · rw [upd_ne (ne_of_none e hd)]; exact s1 b o e
      · rw [upd_same, take_snoc hi]
        exact congrArg (fun z => some (HO.dK z)) (sg_new hnm)
    · rintro σ H1 ⟨v, rfl, s1, hD⟩
      rw [tl_signs, List.take_length] at hD
      refine ⟨Nat.zero_le _, fun q hq => ?_⟩
      have hqd : d ≠ q := by
        rintro rfl
        rw [hD] at hq
        cases hq
      have s2 : Same H (upd H1 q (.lst [])) := fun b o e => by
        have := s1 b o e
        rw [upd_ne (ne_of_none this hq)]
        exact this
      refine ⟨_, rfl, a, rfl, ⟨_, s2.seq hS⟩, for_list (K := K) (a := a) (xs := vN cs) (fun i σ H' => ∃ v4 : Option V, σ = [some (.ref a), some (.ref d), v, some (.ref q), v4] ∧ Same H H' ∧ H' d = some (.dK (sgK signsL)) ∧ H' q = some (.lst (vS ((cs.take i).map one))) ∧ ∀ c ∈ cs.take i, Mir.isSign c = true)
        ⟨none, rfl, s2, by rw [upd_ne hqd]; exact hD, upd_same, by simp⟩ (fun i σ H' _ ⟨_, _, e, _⟩ => e.seq hS) ?_ ?_⟩
      · rintro i y σ H' hi ⟨v4, rfl, s3, hD3, hq3, hall⟩
        obtain ⟨c, hc, rfl⟩ := vN_get hi
        refine ⟨_, rfl, _, rfl, d, _, rfl, DGet.k (k := Sum.inl (c : Int)) hD3, _, rfl, ?_⟩
        by_cases hin : c ∈ signsL
        · rw [sg_val hin]
          refine iteF ?_
          refine ⟨_, rfl, .inl ⟨rfl, _, SqL.of hq3⟩, _, rfl, _, rfl, d, V.str (one c), rfl, ?_, q, _, _, rfl, rfl, hq3, ?_, ?_⟩
          · have := DGet.k (k := Sum.inl (c : Int)) hD3
            rw [sg_val hin] at this
            exact this
          · rw [vS_len, List.length_map, List.length_take]
            exact Nat.lt_of_le_of_lt (Nat.min_le_right _ _) (Nat.lt_of_le_of_lt hl (by decide))
          · refine ⟨_, rfl, fun b o e => ?_, ?_, ?_, fun z hz => ?_⟩
            · by_cases hb : b = q
              · subst hb
                have := s1 b o e
                rw [hq] at this
                cases this
              · rw [upd_ne hb]; exact s3 b o e
            · rw [upd_ne hqd]; exact hD3
            · rw [upd_same, take_snoc hc, List.map_append, vS_app]
              rfl
            · rw [take_snoc hc] at hz
              rcases List.mem_append.mp hz with hz | hz
              · exact hall z hz
              · rw [List.mem_singleton.mp hz]
                exact (signs_in c).mp hin
        · rw [sg_none hin]
          refine iteT ?_
          rw [if_neg] at k
          · exact k H' s3
          · intro z
            exact hin ((signs_in c).mpr (List.all_eq_true.mp z c (List.mem_of_getElem? hc)))
      · rintro σ H' ⟨v4, rfl, s3, hD3, hq3, hall⟩
        rw [vN_len, List.take_length] at hall hq3
        rw [if_pos (List.all_eq_true.mpr hall)] at k
        refine ⟨⟨_, rfl⟩, _, rfl, _, q, cs.map one, rfl, rfl, .inl (SqL.of hq3), ?_, ?_⟩
        · rw [sum_ones, List.length_map]
          show cs.length + cs.length * 0 ≤ 16777216
          omega
        · refine k _ H' s3 ?_
          rw [TL.join_eq, TL.tl_join, List.map_map]
          exact join_one cs
def spLines (K : PySem.W.Frag) (C0 : Addr) : Sp := fun vs H Q E => ∃ (a : Addr) (cs : List Nat), vs = [.ref a] ∧ SqL K H a (vN cs) ∧ cs.length ≤ 66000 ∧
  match Mir.linesM cs with
  | some ls => ∀ (p : Addr) (ys : List Str) (H' : Hp), Same H H' → H' p = some (.lst (vS ys)) → tls ys = ls → Q (.ref p) H'
  | none => ∀ H', Same H H' → E (.ref C0) none H'
theorem scLines : FnScope ["card", "lines"] ["card"] (defScope s_lines_of) := ⟨rfl, rfl, rfl, by decide +kernel, rfl, by decide +kernel, by decide +kernel⟩
theorem nl_all : (Str.ofString "\n").cps.all (· < 256) = true := by decide +kernel
theorem nl_tl : TL.tl (Str.ofString "\n") = [10] := by decide +kernel
theorem ok_lines {f fT : Addr} {fd fdT : FuncData} (F : Fun K "lines_of" "lines_of" s_lines_of f fd) (FT : Fun K "text_of" "text_of" s_text_of fT fdT) (mgT : mg "text_of" = some (.ref fT)) (bT : Binds K fdT ["card"] [])
    (Z : Exn K mg "NoCard" C0) (gl : mg "len" = none) (go : mg "ord" = none) (gS : GV mg "SIGNS" (.str signsS)) : FnOk P w K mg base (CXN P w C0) 2 f fd ["card"] (spLines K C0) := by
  have G : FnOk P w K mg base (CXN P w C0) 1 fT fdT ["card"] (spText K C0) := ok_text FT Z go gS
  refine okX F scLines (fun vs H Q E h => ?_) (fun cdv A outer s H vs Q E hr h => ?_)
  · obtain ⟨a, cs, rfl, _⟩ := h
    rfl
  · obtain ⟨a, cs, rfl, hS, hl, k⟩ := h
    refine ⟨_, pss_cons (ps_set (i := 1) scLines.nd rfl (Or.inl rfl) (pe_split (pe_call G hr rfl mgT FT.kp bT .nil pas (pa_cons (pv 0) pa_nil)) pe_str))
      (pss_cons (ps_if (PW.pt (pw_or (pt_cmpR op_ne (pe_bm0 PySem.F.plainAttrs_list PySem.F.slot_list_pop PySem.F.type_list_pop mt_pop (pv 1)) pe_str (nomark _)) (pw_or1 (pt_cmpR op_eq (pe_callB call_len_seq (by rfl) gl PySem.boot_len (pa_cons (pv 1) pa_nil)) pe_int (nomark _))))) (pss_one (ps_raise0 rfl rfl Z rais)) pss_nil)
      (pss_one (ps_ret (pv 1)))), ?_⟩
    unfold Mir.linesM at k
    refine ⟨_, rfl, a, cs, rfl, hS, hl, ?_⟩
    by_cases hsg : cs.all Mir.isSign = true
    rotate_left
    · rw [if_neg hsg] at k ⊢
      exact k
    rw [if_pos hsg] at k ⊢
    intro x H1 s1 htx
    refine ⟨⟨_, rfl⟩, _, _, rfl, rfl, rfl, ?_, fun p hp => ?_⟩
    · rw [TL.len_tl, htx]
      exact Nat.le_trans (Nat.add_le_add_right hl 2) (by decide)
    have hcut : tls (Txt.split x (Str.ofString "\n")) = Mir.cut 10 [] cs := by rw [split_cut x 10 _ nl_tl nl_all, htx]
    generalize Txt.split x (Str.ofString "\n") = ys at hcut
    rw [← hcut] at k
    have s2 : Same H (upd H1 p (.lst (vS ys))) := fun b o e => by
      have := s1 b o e
      rw [upd_ne (ne_of_none this hp)]
      exact this
    have hne : ys ≠ [] := by
      rintro rfl
      have : ∀ (l acc : List Nat), Mir.cut 10 acc l ≠ [] := by
        intro l
        induction l with
        | nil => intro acc z; cases z
        | cons c r ih =>
          intro acc z
          unfold Mir.cut at z
          split at z
          · cases z
          · exact ih _ z
      exact this cs [] hcut.symm
    obtain ⟨zs, z, rfl⟩ : ∃ zs z, ys = zs ++ [z] := ⟨ys.dropLast, ys.getLast hne, (List.dropLast_concat_getLast hne).symm⟩
    have hlast : (tls (zs ++ [z])).getLast? = some (TL.tl z) := by
      rw [tls_app]
      exact List.getLast?_concat
    have hdl : (tls (zs ++ [z])).dropLast = tls zs := by
      rw [tls_app]
      exact List.dropLast_concat
    have hlen : (tls (zs ++ [z])).length = zs.length + 1 := by
      rw [List.length_map, List.length_append]
      rfl
    rw [hlast, hdl, hlen] at k
    have hvd : (vS (zs ++ [z])).dropLast = vS zs := by
      rw [vS_app]
      exact List.dropLast_concat
    refine ⟨_, rfl, .inl ⟨rfl, _, SqL.of upd_same⟩, p, _, V.str z, rfl, rfl, upd_same, ?_, rfl, _, rfl, ?_⟩
    · rw [vS_len, List.length_append]
      show (List.map V.str (zs ++ [z]))[zs.length + 1 - 1]? = _
      rw [Nat.add_sub_cancel, List.getElem?_map, List.getElem?_append_right (Nat.le_refl _), Nat.sub_self]
      rfl
    rw [hvd, str_dec]
    have hkw : Mir.kw "" = [] := rfl
    rw [hkw]
    have s3 : Same H (upd (upd H1 p (.lst (vS (zs ++ [z])))) p (.lst (vS zs))) := fun b o e => by
      have := s1 b o e
      rw [upd_ne (ne_of_none this hp), upd_ne (ne_of_none this hp)]
      exact this
    refine ite2 (fun e1 => ?_) (fun e1 => ?_)
    · have e1 : ¬ TL.tl z = [] := by simpa using e1
      rw [if_neg (fun q => e1 (Option.some.inj q.1))] at k
      exact iteT (k _ s3)
    · have e1 : TL.tl z = [] := by simpa using e1
      refine ⟨_, rfl, p, vS zs, rfl, .inl (SqL.of upd_same), rfl, _, rfl, ?_⟩
      rw [vS_len, int_dec]
      refine ite2 (fun e2 => ?_) (fun e2 => ?_)
      · have e2 : zs.length = 0 := by
          have := of_decide_eq_true e2
          omega
        rw [if_neg (fun q => by have := q.2; omega)] at k
        exact k _ s3
      · have e2 : ¬ zs.length = 0 := fun q => e2 (decide_eq_true (by omega))
        rw [if_pos ⟨by rw [e1], by omega⟩] at k
        exact ⟨_, rfl, k p zs _ s3 upd_same rfl⟩
end
end Od
set_option Elab.async false
set_option linter.all false
set_option maxRecDepth 100000
set_option maxHeartbeats 8000000
namespace Od
open PySem PySem.Spec PyProof.Rows L2
structure SizK (K : PySem.W.Frag) (w : World) (mg : Str → Option Value) : Prop where
  ex : ∃ (a : Addr) (g : Str → Option V), GV mg "SIZES_OF_KIND" (.ref a) ∧ TabK K w a g ∧ ∀ z : Str, match Mir.sizesM (TL.tl z) with
    | none => g z = none
    | some lh => ∃ t, g z = some (.ref t) ∧ ∀ H, SqT K H t [.int (lh.1 : Int), .int (lh.2 : Int)]
theorem num_bd {lo hi n : Nat} {w : Mir.W} (h : Mir.num lo hi w = some n) : lo ≤ n ∧ n ≤ hi := by
  unfold Mir.num at h
  split at h
  · rename_i hh
    cases h
    exact hh.2.2.2.2
  · cases h
section
variable {P : Program} {w : World} {K : PySem.W.Frag} {mg : Str → Option Value} {base : Heap} {C0 : Addr}
def spPool (K : PySem.W.Frag) (C C0 : Addr) : Sp := fun vs H Q E => ∃ (a l : Addr) (ys : List Str) (as : List Addr) (R : List (List Nat)) (S : List Addr), vs = [.ref a, .ref l] ∧ SqL K H a (vS ys) ∧ (∀ y ∈ ys, Wd y) ∧ SqL K H l (as.map V.ref) ∧ In S H ∧ Lists (Msk S H) as R ∧
  match Mir.poolM R (tls ys) with
  | some m => ∀ (p : Addr) (H' : Hp), Same H H' → ¬ p ∈ S → PoolAt C (Msk S H') p m → Q (.ref p) H'
  | none => ∀ H', Same H H' → E (.ref C0) none H'
theorem scPool : FnScope ["words", "races", "kind", "sizes", "size", "race"] ["words", "races"] (defScope s_read_pool) := ⟨rfl, rfl, rfl, by decide +kernel, rfl, by decide +kernel, by decide +kernel⟩
theorem ok_pool {f C fI fX fN fR fT fZ fF : Addr} {fd fdI fdX fdN fdR fdT fdZ fdF : FuncData} (F : Fun K "read_pool" "read_pool" s_read_pool f fd)
    (T : TxtPool K C) (M : Mk K C fI) (mgP : mg "Pool" = some (.ref C)) (FI : Fun K "__init__" "Pool.__init__" s_pool_init fI fdI) (bI : Binds K fdI ["self", "name", "kind", "size", "fields"] [])
    (FX : Fun K "check_fixed_words" "check_fixed_words" s_check_fixed_words fX fdX) (mgX : mg "check_fixed_words" = some (.ref fX)) (bX : Binds K fdX ["words"] [])
    (FN : Fun K "check_name" "check_name" s_check_name fN fdN) (mgN : mg "check_name" = some (.ref fN)) (bN : Binds K fdN ["word"] [])
    (FR : Fun K "read_number" "read_number" s_read_number fR fdR) (mgR : mg "read_number" = some (.ref fR)) (bR : Binds K fdR ["word", "lowest", "highest"] [])
    (FT : Fun K "check_terms" "check_terms" s_check_terms fT fdT) (mgT : mg "check_terms" = some (.ref fT)) (bT : Binds K fdT ["take_word", "break_word", "least_word", "unit_word"] [])
    (FZ : Fun K "check_none" "check_none" s_check_none fZ fdZ) (mgZ : mg "check_none" = some (.ref fZ)) (bZ : Binds K fdZ ["word", "kind"] [])
    (FF : Fun K "fields_of" "fields_of" s_fields_of fF fdF) (mgF : mg "fields_of" = some (.ref fF)) (bF : Binds K fdF ["kind", "size", "race", "races"] [])
    (Z : Exn K mg "NoCard" C0) (gl : mg "len" = none) (gi : mg "int" = none) (g16 : GV mg "WORDS_OF_POOL" (.int 16)) (gF : FixK K mg "FIXED_WORDS_OF_POOL") (g12 : GV mg "LONGEST_NAME" (.int 12)) (gL : GV mg "LETTERS" (.str (Str.ofString "abcdefghijklmnopqrstuvwxyz")))
    (g5 : GV mg "LONGEST_NUMBER" (.int 5)) (gT : GV mg "MOST_TAKE" (.int 400)) (gB : GV mg "MOST_BREAK" (.int 1000)) (gU : GV mg "MOST_UNIT" (.int 10000)) (gW : TupK K mg "WAYS_OF_NONE" [.str (Str.ofString "refund"), .str (Str.ofString "carry"), .str (Str.ofString "fewer")]) (gZ : SizK K w mg) :
    FnOk P w K mg base (CXN P w C0) 3 f fd ["words", "races"] (spPool K C C0) := by
  have GX : FnOk P w K mg base (CXN P w C0) 1 fX fdX ["words"] (spFixed K C0) := ok_fixed FX Z gl g16 gF
  have GN : FnOk P w K mg base (CXN P w C0) 1 fN fdN ["word"] (spName C0) := ok_name FN Z gl g12 gL
  have GR : FnOk P w K mg base (CXN P w C0) 1 fR fdR ["word", "lowest", "highest"] (spNum C0) := ok_num FR Z gl gi g5
  have GT : FnOk P w K mg base (CXN P w C0) 2 fT fdT ["take_word", "break_word", "least_word", "unit_word"] (spTerms C0) := ok_terms FT FR mgR bR Z gl gi g5 gT gB gU
  have GZ : FnOk P w K mg base (CXN P w C0) 1 fZ fdZ ["word", "kind"] (spNone C0) := ok_none FZ Z gW
  have GF : FnOk P w K mg base (CXN P w C0) 1 fF fdF ["kind", "size", "race", "races"] (spFields K C0) := ok_fields FF Z gl
  have GI : FnOk P w K mg base CX0 1 fI fdI ["self", "name", "kind", "size", "fields"] (spInit C) := ok_init FI T
  obtain ⟨za, g, gz, tz, hz⟩ := gZ.ex
  refine okX F scPool (fun vs H Q E h => ?_) (fun cdv A outer s H vs Q E hr h => ?_)
  · obtain ⟨a, l, ys, as, R, S, rfl, _⟩ := h
    rfl
  · obtain ⟨a, l, ys, as, R, S, rfl, hS, hW, hS2, hI, hL, k⟩ := h
    have hr1 := hr.mono (show 1 ≤ 2 by decide)
    refine ⟨_, pss_cons (ps_expr (pe_call GX hr1 rfl mgX FX.kp bX .nil pas (pa_cons (pv 0) pa_nil)))
      (pss_cons (ps_expr (pe_call GN hr1 rfl mgN FN.kp bN .nil pas (pa_cons (pe_ix ix_list (pv 0) pe_int (fun _ _ => rfl)) pa_nil)))
      (pss_cons (ps_set (i := 2) scPool.nd rfl (Or.inl rfl) (pe_ix ix_list (pv 0) pe_int (fun _ _ => rfl)))
      (pss_cons (ps_if (pt_cmpR (op_notInTab tz) (pv 2) (pe_gl gz) (by with_unfolding_all rfl)) (pss_one (ps_raise0 rfl rfl Z rais)) pss_nil)
      (pss_cons (ps_set (i := 3) scPool.nd rfl (Or.inl rfl) (pe_ix (ix_tab tz) (pe_gl gz) (pv 2) (fun _ _ => rfl)))
      (pss_cons (ps_set (i := 4) scPool.nd rfl (Or.inl rfl) (pe_call GR hr1 rfl mgR FR.kp bR .nil pas (pa_cons (pe_ix ix_list (pv 0) pe_int (fun _ _ => rfl)) (pa_cons (pe_ix ix_tup (pv 3) pe_int (fun _ _ => rfl)) (pa_cons (pe_ix ix_tup (pv 3) pe_int (fun _ _ => rfl)) pa_nil)))))
      (pss_cons (ps_set (i := 5) scPool.nd rfl (Or.inl rfl) (pe_call GR hr1 rfl mgR FR.kp bR .nil pas (pa_cons (pe_ix ix_list (pv 0) pe_int (fun _ _ => rfl)) (pa_cons pe_int (pa_cons (pe_callB call_len_seq (by rfl) gl PySem.boot_len (pa_cons (pv 1) pa_nil)) pa_nil)))))
      (pss_cons (ps_expr (pe_call GT hr rfl mgT FT.kp bT .nil pas (pa_cons (pe_ix ix_list (pv 0) pe_int (fun _ _ => rfl)) (pa_cons (pe_ix ix_list (pv 0) pe_int (fun _ _ => rfl)) (pa_cons (pe_ix ix_list (pv 0) pe_int (fun _ _ => rfl)) (pa_cons (pe_ix ix_list (pv 0) pe_int (fun _ _ => rfl)) pa_nil))))))
      (pss_cons (ps_expr (pe_call GZ hr1 rfl mgZ FZ.kp bZ .nil pas (pa_cons (pe_ix ix_list (pv 0) pe_int (fun _ _ => rfl)) (pa_cons (pv 2) pa_nil))))
      (pss_one (ps_ret (pe_make M GI hr rfl mgP bI .nil pass0 (pa_cons (pe_ix ix_list (pv 0) pe_int (fun _ _ => rfl)) (pa_cons (pv 2) (pa_cons (pv 4) (pa_cons (pe_call GF hr1 rfl mgF FF.kp bF .nil pas (pa_cons (pv 2) (pa_cons (pv 4) (pa_cons (pv 5) (pa_cons (pv 1) pa_nil))))) pa_nil))))))))))))))), ?_⟩
    refine ⟨_, rfl, a, ys, rfl, hS, ?_⟩
    by_cases hlen : ys.length = 16
    rotate_left
    · rw [Mir.poolM_len (by rw [List.length_map]; exact hlen)] at k
      rw [if_neg]
      · exact k H (Same.refl H)
      · unfold fixedOk
        rw [decide_eq_false (by rw [List.length_map]; exact hlen)]
        simp
    obtain ⟨p, yr, rfl⟩ : ∃ p yr, ys = p :: yr := by
      cases ys with
      | nil => cases hlen
      | cons p yr => exact ⟨p, yr, rfl⟩
    obtain ⟨n, kd, kk, f0, r, t0, t, b0, b, m0, m, u0, u, z0, z, rfl⟩ := Mir.len15 (l := yr) (by rw [List.length_cons] at hlen; omega)
    · show _
      have hfx : fixedOk (tls [p, n, kd, kk, f0, r, t0, t, b0, b, m0, m, u0, u, z0, z]) = decide (TL.tl p = Mir.kw "pool" ∧ TL.tl f0 = Mir.kw "from" ∧ TL.tl t0 = Mir.kw "take" ∧ TL.tl b0 = Mir.kw "break" ∧ TL.tl m0 = Mir.kw "least" ∧ TL.tl u0 = Mir.kw "unit" ∧ TL.tl z0 = Mir.kw "none") := by
        rw [Bool.eq_iff_iff]
        simp [fixedOk, fixedL]
      rw [hfx]
      have hM : Mir.poolM R (tls [p, n, kd, kk, f0, r, t0, t, b0, b, m0, m, u0, u, z0, z]) = if (TL.tl p = Mir.kw "pool" ∧ TL.tl f0 = Mir.kw "from" ∧ TL.tl t0 = Mir.kw "take" ∧ TL.tl b0 = Mir.kw "break" ∧ TL.tl m0 = Mir.kw "least" ∧ TL.tl u0 = Mir.kw "unit" ∧ TL.tl z0 = Mir.kw "none") ∧ Mir.okName (TL.tl n) = true then
          (Mir.sizesM (TL.tl kd)).bind fun lh => (Mir.num lh.1 lh.2 (TL.tl kk)).bind fun size => (Mir.num 1 R.length (TL.tl r)).bind fun race => (Mir.termsM (TL.tl t) (TL.tl b) (TL.tl m) (TL.tl u)).bind fun _ => (Mir.noneM (TL.tl z) (TL.tl kd)).bind fun _ =>
            (Mir.fieldsM (TL.tl kd) size race R).map fun fs => ⟨TL.tl n, TL.tl kd, size, fs⟩
          else none := rfl
      rw [hM] at k
      have wd : ∀ y ∈ [p, n, kd, kk, f0, r, t0, t, b0, b, m0, m, u0, u, z0, z], Wd y := hW
      refine ite2 (fun e1 => ?_) (fun e1 => ?_)
      rotate_left
      · have e1 := ndec e1
        rw [if_neg (fun q => e1 q.1)] at k
        exact k H (Same.refl H)
      have e1 := of_decide_eq_true e1
      refine ⟨_, rfl, a, _, _, _, rfl, rfl, hS, rfl, n, rfl, wd n (by simp), ?_⟩
      refine ite2 (fun e2 => ?_) (fun e2 => ?_)
      rotate_left
      · rw [if_neg (fun q => e2 q.2)] at k
        exact k H (Same.refl H)
      rw [if_pos ⟨e1, e2⟩] at k
      refine ⟨_, rfl, a, _, _, _, rfl, rfl, hS, rfl, ?_⟩
      refine ⟨_, rfl, kd, rfl, rfl, _, rfl, ?_⟩
      have hzk := hz kd
      cases hsz : Mir.sizesM (TL.tl kd) with
      | none =>
        rw [hsz] at hzk k
        rw [show g kd = none from hzk]
        exact iteT (k H (Same.refl H))
      | some lh =>
        rw [hsz] at hzk k
        obtain ⟨tt, hgt, hT⟩ := hzk
        rw [Option.bind_some] at k
        rw [hgt]
        refine iteF ?_
        refine ⟨_, rfl, kd, _, rfl, rfl, hgt, ?_⟩
        refine ⟨_, rfl, a, _, _, _, rfl, rfl, hS, rfl, _, rfl, tt, _, _, _, rfl, rfl, hT H, rfl, _, rfl, tt, _, _, _, rfl, rfl, hT H, rfl, kk, lh.1, lh.2, rfl, wd kk (by simp), ?_⟩
        cases hn : Mir.num lh.1 lh.2 (TL.tl kk) with
        | none =>
          rw [hn] at k
          exact k H (Same.refl H)
        | some size =>
          rw [hn, Option.bind_some] at k
          refine ⟨_, rfl, a, _, _, _, rfl, rfl, hS, rfl, _, rfl, l, _, rfl, .inl hS2, r, 1, R.length, ?_, wd r (by simp), ?_⟩
          · rw [List.length_map, hL.len]
            rfl
          cases hrc : Mir.num 1 R.length (TL.tl r) with
          | none =>
            rw [hrc] at k
            exact k H (Same.refl H)
          | some race =>
            rw [hrc, Option.bind_some] at k
            refine ⟨_, rfl, a, _, _, _, rfl, rfl, hS, rfl, _, rfl, a, _, _, _, rfl, rfl, hS, rfl, _, rfl, a, _, _, _, rfl, rfl, hS, rfl, _, rfl, a, _, _, _, rfl, rfl, hS, rfl, t, b, m, u, rfl, ⟨wd t (by simp), wd b (by simp), wd m (by simp), wd u (by simp)⟩, ?_⟩
            cases htm : Mir.termsM (TL.tl t) (TL.tl b) (TL.tl m) (TL.tl u) with
            | none =>
              rw [htm] at k
              exact iteF (k H (Same.refl H))
            | some _ =>
              rw [htm, Option.bind_some] at k
              refine iteT ?_
              refine ⟨_, rfl, a, _, _, _, rfl, rfl, hS, rfl, _, rfl, z, kd, rfl, ?_⟩
              cases hno : Mir.noneM (TL.tl z) (TL.tl kd) with
              | none =>
                rw [hno] at k
                exact iteF (k H (Same.refl H))
              | some _ =>
                rw [hno, Option.bind_some] at k
                refine iteT ?_
                have hrb := num_bd hrc
                refine ⟨_, rfl, a, _, _, _, rfl, rfl, hS, rfl, _, rfl, _, rfl, _, rfl, _, rfl, _, rfl, _, rfl, kd, size, race, l, as, R, S, rfl, hS2, hI, hL, hrb.1, hrb.2, ?_⟩
                cases hfs : Mir.fieldsM (TL.tl kd) size race R with
                | none =>
                  rw [hfs] at k
                  exact k H (Same.refl H)
                | some fs =>
                  rw [hfs] at k
                  intro q bs H1 s1 hqS hq hLs x dx nx ndx nex
                  have nq : q ≠ x := by
                    rintro rfl
                    rw [hq] at nx
                    cases nx
                  have nqd : q ≠ dx := by
                    rintro rfl
                    rw [hq] at ndx
                    cases ndx
                  refine ⟨x, dx, q, n, kd, (size : Int), rfl, upd_same, fun H2 hx hk => ⟨rfl, ?_⟩⟩
                  have sm : Same H1 H2 := Same.made nx ndx hk
                  have hxS : ¬ x ∈ S := hI.new (s1.free nx)
                  exact k x H2 (s1.trans sm) hxS ⟨dx, q, bs, n, kd, (msk_at hxS).trans hx, rfl, rfl, (msk_at hqS).trans (sm _ _ hq), hLs.same (msk_mono sm)⟩
end
end Od
set_option Elab.async false
set_option linter.all false
set_option maxRecDepth 100000
set_option maxHeartbeats 8000000
namespace Od
open PySem PySem.Spec PyProof.Rows L2
theorem lines_mem {cs : Mir.W} {ls : List Mir.W} (h : Mir.linesM cs = some ls) : ls ≠ [] ∧ ∀ l ∈ ls, l.length ≤ cs.length ∧ ∀ c ∈ l, Mir.isSign c = true := by
  unfold Mir.linesM at h
  split at h
  · rename_i hs
    split at h
    · rename_i hh
      cases h
      refine ⟨fun z => ?_, fun l hl => ?_⟩
      · have e : (Mir.cut 10 [] cs).dropLast.length = 0 := by rw [z]; rfl
        rw [List.length_dropLast] at e
        have := hh.2
        omega
      · have hm : l ∈ Mir.cut 10 [] cs := (List.dropLast_sublist _).subset hl
        obtain ⟨h1, h2⟩ := cut_mem 10 cs [] l hm
        have h1 : l.length ≤ 0 + cs.length := h1
        refine ⟨by omega, fun c hc => ?_⟩
        rcases h2 c hc with z | z
        · cases z
        · exact List.all_eq_true.mp hs c z
    · cases h
  · cases h
theorem bl_all : (Str.ofString " ").cps.all (· < 256) = true := by decide +kernel
theorem bl_tl : TL.tl (Str.ofString " ") = [32] := by decide +kernel
theorem words_cut (y : Str) : tls (Txt.split y (Str.ofString " ")) = Mir.cut 32 [] (TL.tl y) := split_cut y 32 _ bl_tl bl_all
theorem words_wd {y : Str} (h1 : (TL.tl y).length ≤ 66000) (h2 : ∀ c ∈ TL.tl y, Mir.isSign c = true) : ∀ x ∈ Txt.split y (Str.ofString " "), Wd x := fun x hx => by
  have hm : TL.tl x ∈ Mir.cut 32 [] (TL.tl y) := by
    rw [← words_cut]
    exact List.mem_map.mpr ⟨x, hx, rfl⟩
  obtain ⟨a1, a2⟩ := cut_mem 32 _ [] _ hm
  have a1 : (TL.tl x).length ≤ 0 + (TL.tl y).length := a1
  refine ⟨by omega, fun c hc => ?_⟩
  rcases a2 c hc with z | z
  · cases z
  · exact sign_asc (h2 c z)
theorem cut_ne (s : Nat) : ∀ (l acc : List Nat), Mir.cut s acc l ≠ []
  | [], acc => by simp [Mir.cut]
  | c :: r, acc => by
    unfold Mir.cut
    split
    · simp
    · exact cut_ne s r _
theorem words_many {y : Str} (h1 : (TL.tl y).length ≤ 66000) : (Txt.split y (Str.ofString " ")).length ≤ 70000 := by
  have e := congrArg List.length (words_cut y)
  rw [List.length_map] at e
  have := cut_len 32 (TL.tl y) []
  omega
theorem words_head (y : Str) : ∃ x r, Txt.split y (Str.ofString " ") = x :: r := by
  cases e : Txt.split y (Str.ofString " ") with
  | nil =>
    have q := words_cut y
    rw [e] at q
    exact absurd q.symm (cut_ne 32 _ _)
  | cons x r => exact ⟨x, r, rfl⟩
theorem Lists.snoc {H : Hp} {as : List Addr} {fs : List (List Nat)} {p : Addr} {f : List Nat} (L : Lists H as fs) (h : H p = some (.lst (vN f))) : Lists H (as ++ [p]) (fs ++ [f]) := by
  refine ⟨by rw [List.length_append, List.length_append, L.len]; rfl, fun j a hj => ?_⟩
  by_cases hlt : j < as.length
  · rw [List.getElem?_append_left hlt] at hj
    obtain ⟨g, hg, hc⟩ := L.at_ j a hj
    exact ⟨g, by rw [List.getElem?_append_left (by rw [← L.len]; exact hlt)]; exact hg, hc⟩
  · rw [List.getElem?_append_right (by omega)] at hj
    have hz : j - as.length = 0 := by
      have := (List.getElem?_eq_some_iff.mp hj).1
      simp at this
      omega
    rw [hz] at hj
    cases hj
    refine ⟨f, ?_, h⟩
    rw [List.getElem?_append_right (by rw [← L.len]; omega), ← L.len, hz]
    rfl
theorem Pools.snoc {C : Addr} {H : Hp} {as : List Addr} {fs : List Mir.MPool} {p : Addr} {f : Mir.MPool} (L : Pools C H as fs) (h : PoolAt C H p f) : Pools C H (as ++ [p]) (fs ++ [f]) := by
  refine ⟨by rw [List.length_append, List.length_append, L.len]; rfl, fun j a hj => ?_⟩
  by_cases hlt : j < as.length
  · rw [List.getElem?_append_left hlt] at hj
    obtain ⟨g, hg, hc⟩ := L.at_ j a hj
    exact ⟨g, by rw [List.getElem?_append_left (by rw [← L.len]; exact hlt)]; exact hg, hc⟩
  · rw [List.getElem?_append_right (by omega)] at hj
    have hz : j - as.length = 0 := by
      have := (List.getElem?_eq_some_iff.mp hj).1
      simp at this
      omega
    rw [hz] at hj
    cases hj
    refine ⟨f, ?_, h⟩
    rw [List.getElem?_append_right (by rw [← L.len]; omega), ← L.len, hz]
    rfl
structure Reads (P : Program) (w : World) (K : PySem.W.Frag) (mg : Str → Option Value) (base : Heap) (C C0 : Addr) : Prop where
  lines : ∃ (f : Addr) (fd : FuncData), mg "lines_of" = some (.ref f) ∧ PySem.W.keepIn K (.ref f) = true ∧ Binds K fd ["card"] [] ∧ FnOk P w K mg base (CXN P w C0) 2 f fd ["card"] (spLines K C0)
  day : ∃ (f : Addr) (fd : FuncData), mg "check_day" = some (.ref f) ∧ PySem.W.keepIn K (.ref f) = true ∧ Binds K fd ["words"] [] ∧ FnOk P w K mg base (CXN P w C0) 2 f fd ["words"] (spDay K C0)
  race : ∃ (f : Addr) (fd : FuncData), mg "read_race" = some (.ref f) ∧ PySem.W.keepIn K (.ref f) = true ∧ Binds K fd ["words"] [] ∧ FnOk P w K mg base (CXN P w C0) 2 f fd ["words"] (spRace K C0)
  pool : ∃ (f : Addr) (fd : FuncData), mg "read_pool" = some (.ref f) ∧ PySem.W.keepIn K (.ref f) = true ∧ Binds K fd ["words", "races"] [] ∧ FnOk P w K mg base (CXN P w C0) 3 f fd ["words", "races"] (spPool K C C0)
  differ : ∃ (f : Addr) (fd : FuncData), mg "check_names_differ" = some (.ref f) ∧ PySem.W.keepIn K (.ref f) = true ∧ Binds K fd ["pools"] [] ∧ FnOk P w K mg base (CXN P w C0) 1 f fd ["pools"] (spDiffer K C C0)
section
variable {P : Program} {w : World} {K : PySem.W.Frag} {mg : Str → Option Value} {base : Heap} {C0 : Addr}
def spCard (K : PySem.W.Frag) (C C0 : Addr) : Sp := fun vs H Q E => ∃ (a : Addr) (cs : List Nat), vs = [.ref a] ∧ SqL K H a (vN cs) ∧ cs.length ≤ 66000 ∧
  match Mir.cardM cs with
  | some ms => ∀ (p : Addr) (as : List Addr) (H' : Hp), Same H H' → H' p = some (.lst (as.map V.ref)) → Pools C H' as ms → Q (.ref p) H'
  | none => ∀ H', Same H H' → E (.ref C0) none H'
theorem scCard : FnScope ["card", "lines", "races", "pools", "line", "words"] ["card"] (defScope s_read_card) := ⟨rfl, rfl, rfl, by decide +kernel, rfl, by decide +kernel, by decide +kernel⟩
theorem ok_card {f C : Addr} {fd : FuncData} (F : Fun K "read_card" "read_card" s_read_card f fd) (RD : Reads P w K mg base C C0)
    (Z : Exn K mg "NoCard" C0) (gl : mg "len" = none) (gR : GV mg "MOST_RACES" (.int 16)) (gP : GV mg "MOST_POOLS" (.int 64)) :
    FnOk P w K mg base (CXN P w C0) 4 f fd ["card"] (spCard K C C0) := by
  obtain ⟨f1, fd1, mg1, kp1, b1, G1⟩ := RD.lines
  obtain ⟨f2, fd2, mg2, kp2, b2, G2⟩ := RD.day
  obtain ⟨f3, fd3, mg3, kp3, b3, G3⟩ := RD.race
  obtain ⟨f4, fd4, mg4, kp4, b4, G4⟩ := RD.pool
  obtain ⟨f5, fd5, mg5, kp5, b5, G5⟩ := RD.differ
  refine okX F scCard (fun vs H Q E h => ?_) (fun cdv A outer s H vs Q E hr h => ?_)
  · obtain ⟨a, cs, rfl, _⟩ := h
    rfl
  · obtain ⟨a, cs, rfl, hS, hl, k⟩ := h
    have hr1 := hr.mono (show 1 ≤ 3 by decide)
    have hr2 := hr.mono (show 2 ≤ 3 by decide)
    refine ⟨_, pss_cons (ps_set (i := 1) scCard.nd rfl (Or.inl rfl) (pe_call G1 hr2 rfl mg1 kp1 b1 .nil pas (pa_cons (pv 0) pa_nil)))
      (pss_cons (ps_expr (pe_call G2 hr2 rfl mg2 kp2 b2 .nil pas (pa_cons (pe_split (pe_ix ix_list (pv 1) pe_int (fun _ _ => rfl)) pe_str) pa_nil)))
      (pss_cons (ps_set (i := 2) scCard.nd rfl (Or.inl rfl) (pe_lst pa_nil))
      (pss_cons (ps_set (i := 3) scCard.nd rfl (Or.inl rfl) (pe_lst pa_nil))
      (pss_cons (ps_for PassesOwn.leaving rfl (pi_list (pe_slice sl_list (pv 1) (po_some pe_int) po_none)) (pg_name (i := 4) scCard.nd rfl (Or.inl rfl))
        (pss_cons (ps_set (i := 5) scCard.nd rfl (Or.inl rfl) (pe_split (pv 4) pe_str))
        (pss_one (ps_if (PW.pt (pw_and (pt_cmpR op_eq (pe_ix ix_list (pv 5) pe_int (fun _ _ => rfl)) pe_str (nomark _)) (pw_and1 (pt_cmpR op_eq (pe_callB call_len_seq (by rfl) gl PySem.boot_len (pa_cons (pv 3) pa_nil)) pe_int (nomark _)))))
          (pss_one (ps_expr (pe_bm PySem.F.plainAttrs_list PySem.F.slot_list_append PySem.F.type_list_append mt_append (pv 2) (pa_cons (pe_call G3 hr2 rfl mg3 kp3 b3 .nil pas (pa_cons (pv 5) pa_nil)) pa_nil))))
          (pss_one (ps_expr (pe_bm PySem.F.plainAttrs_list PySem.F.slot_list_append PySem.F.type_list_append mt_append (pv 3) (pa_cons (pe_call G4 hr rfl mg4 kp4 b4 .nil pas (pa_cons (pv 5) (pa_cons (pv 2) pa_nil))) pa_nil))))))))
      (pss_cons (ps_if (PW.pt (pw_or (pt_cmpR op_lt (pe_callB call_len_seq (by rfl) gl PySem.boot_len (pa_cons (pv 2) pa_nil)) pe_int (nomark _)) (pw_or (pt_cmpR op_gt (pe_callB call_len_seq (by rfl) gl PySem.boot_len (pa_cons (pv 2) pa_nil)) (pe_gl gR) (nomark _)) (pw_or1 (pt_cmpR op_gt (pe_callB call_len_seq (by rfl) gl PySem.boot_len (pa_cons (pv 3) pa_nil)) (pe_gl gP) (nomark _)))))) (pss_one (ps_raise0 rfl rfl Z rais)) pss_nil)
      (pss_cons (ps_expr (pe_call G5 hr1 rfl mg5 kp5 b5 .nil pas (pa_cons (pv 3) pa_nil)))
      (pss_one (ps_ret (pv 3))))))))), ?_⟩
    refine ⟨_, rfl, a, cs, rfl, hS, hl, ?_⟩
    unfold Mir.cardM at k
    cases hls : Mir.linesM cs with
    | none =>
      rw [hls] at k
      exact k
    | some ls =>
      rw [hls, Option.bind_some] at k
      intro p0 ys H1 s1 hp0 hys
      subst hys
      obtain ⟨hne, hmem⟩ := lines_mem hls
      obtain ⟨y0, yr, rfl⟩ : ∃ y0 yr, ys = y0 :: yr := by
        cases ys with
        | nil => exact absurd rfl hne
        | cons y0 yr => exact ⟨y0, yr, rfl⟩
      have hline : ∀ y ∈ y0 :: yr, (TL.tl y).length ≤ 66000 ∧ ∀ c ∈ TL.tl y, Mir.isSign c = true := fun y hy => by
        obtain ⟨q1, q2⟩ := hmem (TL.tl y) (List.mem_map.mpr ⟨y, hy, rfl⟩)
        exact ⟨by omega, q2⟩
      have hsz : ∀ y ∈ y0 :: yr, y.length + 2 ≤ sizeLine := fun y hy => by
        rw [TL.len_tl]
        exact Nat.le_trans (Nat.add_le_add_right (hline y hy).1 2) (by decide)
      have hm0 : y0 ∈ y0 :: yr := List.mem_cons_self
      have k : match (Mir.dayM (Mir.cut 32 [] (TL.tl y0))).bind fun _ => (Mir.laxAll ([], []) (tls yr)).bind fun s => if Mir.okEnd s = true then some s.2 else none with
        | some ms => ∀ (p : Addr) (as : List Addr) (H' : Hp), Same H H' → H' p = some (.lst (as.map V.ref)) → Pools C H' as ms → Q (.ref p) H'
        | none => ∀ H', Same H H' → E (.ref C0) none H' := k
      refine ⟨_, rfl, p0, _, _, _, rfl, rfl, SqL.of hp0, atI_nat (xs := vS (y0 :: yr)) (j := 0) (v := V.str y0) rfl, ⟨_, rfl⟩, _, _, rfl, rfl, rfl, hsz y0 hm0, fun pw hpw => ?_⟩
      have s2 : Same H1 (upd H1 pw (.lst (vS (Txt.split y0 (Str.ofString " "))))) := fun b o e => by rw [upd_ne (ne_of_none e hpw)]; exact e
      refine ⟨pw, _, rfl, SqL.of upd_same, words_wd (hline y0 hm0).1 (hline y0 hm0).2, ?_⟩
      rw [words_cut]
      cases hday : Mir.dayM (Mir.cut 32 [] (TL.tl y0)) with
      | none =>
        rw [hday] at k
        exact iteF (k _ (s1.trans s2))
      | some _ =>
        rw [hday, Option.bind_some] at k
        refine iteT ?_
        generalize upd H1 pw (.lst (vS (Txt.split y0 (Str.ofString " ")))) = H2 at s2
        have s12 := s1.trans s2
        refine ⟨Nat.zero_le _, fun lr hlr => ⟨Nat.zero_le _, fun lp hlp => ?_⟩⟩
        have nlp : lp ≠ lr := by
          rintro rfl
          rw [upd_same] at hlp
          cases hlp
        have hlp2 : H2 lp = none := by
          rw [upd_ne nlp] at hlp
          exact hlp
        have s3 : Same H2 (upd (upd H2 lr (.lst [])) lp (.lst [])) := fun b o e => by
          rw [upd_ne (ne_of_none e hlp2), upd_ne (ne_of_none e hlr)]
          exact e
        have a1 : (upd (upd H2 lr (.lst [])) lp (.lst [])) lr = some (.lst []) := by rw [upd_ne nlp.symm, upd_same]
        have a2 : (upd (upd H2 lr (.lst [])) lp (.lst [])) lp = some (.lst []) := upd_same
        generalize upd (upd H2 lr (.lst [])) lp (.lst []) = H3 at s3 a1 a2
        have s13 := s12.trans s3
        refine ⟨_, rfl, _, rfl, p0, _, rfl, SqL.of (s3 _ _ (s2 _ _ hp0)), fun p1 hp1 => ?_⟩
        have ecut : cutV (vS (y0 :: yr)) (some 1) none = vS yr := by
          unfold cutV
          rw [show (some (1 : Int)) = some ((1 : Nat) : Int) from rfl, HT.sIx_nat, HT.sIx_none, vS_len, List.length_cons, Nat.min_eq_left (by omega)]
          show (List.drop 0 (vS yr)).take (yr.length + 1 - 1) = _
          rw [List.drop_zero, Nat.add_sub_cancel, List.take_of_length_le (by rw [vS_len]; exact Nat.le_refl _)]
        rw [ecut]
        have np1r : p1 ≠ lr := by
          rintro rfl
          rw [a1] at hp1
          cases hp1
        have np1p : p1 ≠ lp := by
          rintro rfl
          rw [a2] at hp1
          cases hp1
        have s4 : Same H3 (upd H3 p1 (.lst (vS yr))) := fun b o e => by rw [upd_ne (ne_of_none e hp1)]; exact e
        have a3 : (upd H3 p1 (.lst (vS yr))) p1 = some (.lst (vS yr)) := upd_same
        have a4 := s4 _ _ a1
        have a5 := s4 _ _ a2
        generalize upd H3 p1 (.lst (vS yr)) = H4 at s4 a3 a4 a5
        have s14 := s13.trans s4
        have hHlr : H lr = none := s12.free hlr
        have hHlp : H lp = none := s12.free hlp2
        refine ⟨p1, rfl, ⟨_, SqL.of a3⟩, for_list (K := K) (a := p1) (xs := vS yr) (fun i σ H' => ∃ (v4 v5 : Option V) (ra : List Addr) (R : List (List Nat)) (pa : List Addr) (ms : List Mir.MPool), σ = [some (.ref a), some (.ref p0), some (.ref lr), some (.ref lp), v4, v5] ∧ Same H H' ∧
            H' p1 = some (.lst (vS yr)) ∧ H' lr = some (.lst (ra.map V.ref)) ∧ H' lp = some (.lst (pa.map V.ref)) ∧ Lists (Msk [lr, lp] H') ra R ∧ Pools C (Msk [lr, lp] H') pa ms ∧ ra.length ≤ i ∧ pa.length ≤ i ∧ Mir.laxAll ([], []) (tls yr) = Mir.laxAll (R, ms) ((tls yr).drop i))
          ⟨none, none, [], [], [], [], rfl, s14, a3, a4, a5, ⟨rfl, fun j b hj => by simp at hj⟩, ⟨rfl, fun j b hj => by simp at hj⟩, Nat.le_refl _, Nat.le_refl _, rfl⟩ (fun i σ H' _ ⟨_, _, _, _, _, _, _, _, e, _⟩ => SqL.of e) ?_ ?_⟩
        · rintro i x σ H' hi ⟨v4, v5, ra, R, pa, ms, rfl, t1, t2, t3, t4, hL, hP, hra, hpa, hlax⟩
          obtain ⟨y, hy, rfl⟩ : ∃ y, yr[i]? = some y ∧ x = V.str y := by
            rw [List.getElem?_map] at hi
            cases e : yr[i]? with
            | none => rw [e] at hi; cases hi
            | some y => rw [e] at hi; exact ⟨y, rfl, (Option.some.inj hi).symm⟩
          have hym : y ∈ y0 :: yr := List.mem_cons_of_mem _ (List.mem_of_getElem? hy)
          have hi2 : i < yr.length := (List.getElem?_eq_some_iff.mp hy).1
          have hyl : yr.length ≤ 100000 := by
            have q := congrArg Option.isSome hls
            unfold Mir.linesM at hls
            split at hls
            · split at hls
              · have e := congrArg List.length (Option.some.inj hls)
                rw [List.length_dropLast, List.length_map, List.length_cons] at e
                have := cut_len 10 cs []
                omega
              · cases hls
            · cases hls
          refine ⟨_, rfl, ⟨_, rfl⟩, _, _, rfl, rfl, rfl, hsz y hym, fun pq hpq => ?_⟩
          have u1 : Same H' (upd H' pq (.lst (vS (Txt.split y (Str.ofString " "))))) := fun b o e => by rw [upd_ne (ne_of_none e hpq)]; exact e
          have u2 : (upd H' pq (.lst (vS (Txt.split y (Str.ofString " "))))) pq = some (.lst (vS (Txt.split y (Str.ofString " ")))) := upd_same
          generalize upd H' pq (.lst (vS (Txt.split y (Str.ofString " ")))) = Ha at u1 u2
          have hwd := words_wd (hline y hym).1 (hline y hym).2
          have hmany := words_many (hline y hym).1
          have hcut := words_cut y
          obtain ⟨w0, wr, hws⟩ := words_head y
          rw [hws] at u2 hwd hmany hcut
          have hdrop : (tls yr).drop i = TL.tl y :: (tls yr).drop (i + 1) := drop_cons (by rw [List.getElem?_map, hy]; rfl)
          rw [hdrop] at hlax
          have hlax : Mir.laxAll ([], []) (tls yr) = (Mir.lax (R, ms) (TL.tl y)).bind fun t => Mir.laxAll t ((tls yr).drop (i + 1)) := hlax
          have hlx : Mir.lax (R, ms) (TL.tl y) = if TL.tl w0 = Mir.kw "race" ∧ ms = [] then (Mir.raceM (tls (w0 :: wr))).map fun h => (R ++ [h], ms) else (Mir.poolM R (tls (w0 :: wr))).map fun p => (R, ms ++ [p]) := by
            unfold Mir.lax
            rw [← hcut]
            show (if some (TL.tl w0) = some (Mir.kw "race") ∧ ms = [] then _ else _) = _
            simp only [Option.some.injEq]
          have bad : Mir.lax (R, ms) (TL.tl y) = none → ∀ H', Same H H' → E (.ref C0) none H' := fun z => by
            rw [hlax, z] at k
            exact k
          have hInS : In [lr, lp] Ha := fun b hb => by
            rcases List.mem_cons.mp hb with rfl | hb
            · exact ⟨_, u1 _ _ t3⟩
            · rw [List.mem_singleton.mp hb]
              exact ⟨_, u1 _ _ t4⟩
          refine ⟨_, rfl, pq, _, _, _, rfl, rfl, SqL.of u2, atI_nat (xs := vS (w0 :: wr)) (j := 0) (v := V.str w0) rfl, rfl, _, rfl, ?_⟩
          rw [str_dec]
          have doPool : ¬ (TL.tl w0 = Mir.kw "race" ∧ ms = []) → match Mir.poolM R (tls (w0 :: wr)) with
              | some m => ∀ (p : Addr) (Hb : Hp), Same Ha Hb → ¬ p ∈ [lr, lp] → PoolAt C (Msk [lr, lp] Hb) p m → (∃ (v4 v5 : Option V) (ra' : List Addr) (R' : List (List Nat)) (pa' : List Addr) (ms' : List Mir.MPool), [some (.ref a), some (.ref p0), some (.ref lr), some (.ref lp), some (V.str y), some (.ref pq)] = [some (.ref a), some (.ref p0), some (.ref lr), some (.ref lp), v4, v5] ∧ Same H (upd Hb lp (.lst (pa.map V.ref ++ [.ref p]))) ∧
                  (upd Hb lp (.lst (pa.map V.ref ++ [.ref p]))) p1 = some (.lst (vS yr)) ∧ (upd Hb lp (.lst (pa.map V.ref ++ [.ref p]))) lr = some (.lst (ra'.map V.ref)) ∧ (upd Hb lp (.lst (pa.map V.ref ++ [.ref p]))) lp = some (.lst (pa'.map V.ref)) ∧ Lists (Msk [lr, lp] (upd Hb lp (.lst (pa.map V.ref ++ [.ref p])))) ra' R' ∧ Pools C (Msk [lr, lp] (upd Hb lp (.lst (pa.map V.ref ++ [.ref p])))) pa' ms' ∧ ra'.length ≤ i + 1 ∧ pa'.length ≤ i + 1 ∧ Mir.laxAll ([], []) (tls yr) = Mir.laxAll (R', ms') ((tls yr).drop (i + 1)))
              | none => ∀ Hb, Same H Hb → E (.ref C0) none Hb := fun hn => by
            rw [if_neg hn] at hlx
            cases hp : Mir.poolM R (tls (w0 :: wr)) with
            | none =>
              rw [hp] at hlx
              exact bad hlx
            | some m =>
              rw [hp] at hlx
              intro p Hb sb hpS hpo
              have e1 := msk_upd (S := [lr, lp]) (H := Hb) (b := lp) (o := .lst (pa.map V.ref ++ [.ref p])) (by simp)
              have sH : Same (Msk [lr, lp] H') (Msk [lr, lp] Hb) := msk_mono (u1.trans sb)
              refine ⟨_, _, ra, R, pa ++ [p], ms ++ [m], rfl, fun b o e => ?_, ?_, ?_, ?_, ?_, ?_, by omega, ?_, ?_⟩
              · rw [upd_ne (ne_of_none e hHlp)]
                exact sb _ _ (u1 _ _ (t1 b o e))
              · rw [upd_ne np1p]
                exact sb _ _ (u1 _ _ t2)
              · rw [upd_ne nlp.symm]
                exact sb _ _ (u1 _ _ t3)
              · rw [upd_same, List.map_append]
                rfl
              · rw [e1]
                exact hL.same sH
              · rw [e1]
                exact (hP.same sH).snoc hpo
              · rw [List.length_append, List.length_singleton]; omega
              · rw [hlax, hlx]
                rfl
          refine ite2 (fun e1 => ?_) (fun e1 => ?_)
          · have e1 := of_decide_eq_true e1
            refine ⟨_, rfl, lp, _, rfl, .inl (SqL.of (u1 _ _ t4)), rfl, _, rfl, ?_⟩
            rw [List.length_map, int_dec, hP.len]
            refine ite2 (fun e2 => ?_) (fun e2 => ?_)
            · have e2 : ms = [] := by
                have := of_decide_eq_true e2
                exact List.eq_nil_of_length_eq_zero (by omega)
              rw [if_pos ⟨e1, e2⟩] at hlx
              refine ⟨_, rfl, .inl ⟨rfl, _, SqL.of (u1 _ _ t3)⟩, _, rfl, pq, w0 :: wr, rfl, SqL.of u2, hwd, hmany, ?_⟩
              cases hrc : Mir.raceM (tls (w0 :: wr)) with
              | none =>
                rw [hrc] at hlx
                exact fun Hb sb => bad hlx Hb ((t1.trans u1).trans sb)
              | some fl =>
                rw [hrc] at hlx
                intro p Hb sb hpn hp
                have hpS : ¬ p ∈ [lr, lp] := hInS.new hpn
                refine ⟨lr, _, _, rfl, rfl, sb _ _ (u1 _ _ t3), ?_, ?_⟩
                · rw [List.length_map]
                  exact Nat.lt_of_le_of_lt (show ra.length ≤ 100000 by omega) (by decide)
                have e3 := msk_upd (S := [lr, lp]) (H := Hb) (b := lr) (o := .lst (ra.map V.ref ++ [.ref p])) (by simp)
                have sH : Same (Msk [lr, lp] H') (Msk [lr, lp] Hb) := msk_mono (u1.trans sb)
                refine ⟨_, _, ra ++ [p], R ++ [fl], pa, ms, rfl, fun b o e => ?_, ?_, ?_, ?_, ?_, ?_, ?_, by omega, ?_⟩
                · rw [upd_ne (ne_of_none e hHlr)]
                  exact sb _ _ (u1 _ _ (t1 b o e))
                · rw [upd_ne np1r]
                  exact sb _ _ (u1 _ _ t2)
                · rw [upd_same, List.map_append]
                  rfl
                · rw [upd_ne nlp]
                  exact sb _ _ (u1 _ _ t4)
                · rw [e3]
                  exact (hL.same sH).snoc ((msk_at hpS).trans hp)
                · rw [e3]
                  exact hP.same sH
                · rw [List.length_append, List.length_singleton]; omega
                · rw [hlax, hlx]
                  rfl
            · have e2 : ¬ ms = [] := fun z => e2 (decide_eq_true (by rw [z]; rfl))
              have dp := doPool fun z => e2 z.2
              refine ⟨_, rfl, .inl ⟨rfl, _, SqL.of (u1 _ _ t4)⟩, _, rfl, _, rfl, pq, lr, w0 :: wr, ra, R, [lr, lp], rfl, SqL.of u2, hwd, SqL.of (u1 _ _ t3), hInS, hL.same (msk_mono u1), ?_⟩
              cases hp : Mir.poolM R (tls (w0 :: wr)) with
              | none =>
                rw [hp] at dp
                exact fun Hb sb => dp Hb ((t1.trans u1).trans sb)
              | some m =>
                rw [hp] at dp
                intro p Hb sb hpS hpo
                refine ⟨lp, _, _, rfl, rfl, sb _ _ (u1 _ _ t4), ?_, dp p Hb sb hpS hpo⟩
                rw [List.length_map]
                exact Nat.lt_of_le_of_lt (show pa.length ≤ 100000 by omega) (by decide)
          · have e1 := ndec e1
            have dp := doPool fun z => e1 z.1
            refine iteF ?_
            refine ⟨_, rfl, .inl ⟨rfl, _, SqL.of (u1 _ _ t4)⟩, _, rfl, _, rfl, pq, lr, w0 :: wr, ra, R, [lr, lp], rfl, SqL.of u2, hwd, SqL.of (u1 _ _ t3), hInS, hL.same (msk_mono u1), ?_⟩
            cases hp : Mir.poolM R (tls (w0 :: wr)) with
            | none =>
              rw [hp] at dp
              exact fun Hb sb => dp Hb ((t1.trans u1).trans sb)
            | some m =>
              rw [hp] at dp
              intro p Hb sb hpS hpo
              refine ⟨lp, _, _, rfl, rfl, sb _ _ (u1 _ _ t4), ?_, dp p Hb sb hpS hpo⟩
              rw [List.length_map]
              exact Nat.lt_of_le_of_lt (show pa.length ≤ 100000 by omega) (by decide)
        · rintro σ H' ⟨v4, v5, ra, R, pa, ms, rfl, t1, t2, t3, t4, hL, hP, hra, hpa, hlax⟩
          rw [vS_len] at hlax
          rw [List.drop_of_length_le (by rw [List.length_map]; exact Nat.le_refl _)] at hlax
          have hlax : Mir.laxAll ([], []) (tls yr) = some (R, ms) := hlax
          rw [hlax, Option.bind_some] at k
          have hok : Mir.okEnd (R, ms) = (decide (1 ≤ R.length) && (decide (R.length ≤ 16) && (decide (ms.length ≤ 64) && decide (ms.map (·.name)).Nodup))) := rfl
          have bad : Mir.okEnd (R, ms) = false → ∀ H', Same H H' → E (.ref C0) none H' := fun z => by
            rw [if_neg (by rw [z]; exact Bool.false_ne_true)] at k
            exact k
          refine ⟨_, rfl, lr, _, rfl, .inl (SqL.of t3), _, _, rfl, rfl, _, rfl, ?_⟩
          rw [List.length_map, hL.len]
          refine ite2 (fun e1 => ?_) (fun e1 => ?_)
          · have e1 := of_decide_eq_true e1
            refine iteT (bad ?_ H' t1)
            rw [hok, decide_eq_false (by omega)]
            rfl
          have e1 := ndec e1
          refine ⟨_, rfl, lr, _, rfl, .inl (SqL.of t3), _, _, rfl, rfl, _, rfl, ?_⟩
          rw [List.length_map, hL.len]
          refine ite2 (fun e2 => ?_) (fun e2 => ?_)
          · have e2 := of_decide_eq_true e2
            refine iteT (bad ?_ H' t1)
            rw [hok, decide_eq_false (show ¬ R.length ≤ 16 by omega)]
            simp
          have e2 := ndec e2
          refine ⟨_, rfl, lp, _, rfl, .inl (SqL.of t4), _, _, rfl, rfl, _, rfl, ?_⟩
          rw [List.length_map, hP.len]
          refine ite2 (fun e3 => ?_) (fun e3 => ?_)
          · have e3 := of_decide_eq_true e3
            refine bad ?_ H' t1
            rw [hok, decide_eq_false (show ¬ ms.length ≤ 64 by omega)]
            simp
          have e3 := ndec e3
          have hPH : Pools C H' pa ms := hP.same (msk_same _ _)
          refine ⟨_, rfl, lp, pa, ms, rfl, SqL.of t4, hPH, by rw [hP.len]; omega, ?_⟩
          have hok2 : Mir.okEnd (R, ms) = decide (ms.map (·.name)).Nodup := by
            rw [hok, decide_eq_true (show 1 ≤ R.length by omega), decide_eq_true (show R.length ≤ 16 by omega), decide_eq_true (show ms.length ≤ 64 by omega)]
            rfl
          refine ite2 (fun e4 => ?_) (fun e4 => ?_)
          · intro H'' s5
            rw [if_pos (by rw [hok2]; exact e4)] at k
            exact ⟨_, rfl, k lp pa H'' (t1.trans s5) (s5 _ _ t4) (hPH.same s5)⟩
          · intro H'' s5
            refine bad ?_ H'' (t1.trans s5)
            rw [hok2]
            exact decide_eq_false (ndec e4)
end
end Od
set_option Elab.async false
set_option linter.all false
set_option maxRecDepth 100000
set_option maxHeartbeats 8000000
namespace Od
open PySem PySem.Spec PyProof.Rows L2
def spRowG (K : PySem.W.Frag) (ok : List Nat → List Nat → Bool) : Sp := fun vs H Q _ => ∃ (r a : Addr) (row f : List Nat), vs = [.ref r, .ref a] ∧ SqL K H r (vN row) ∧ SqL K H a (vN f) ∧ row.length ≤ 100 ∧ Mir.FieldOk f ∧ ∀ H', Same H H' → Q (.bl (ok row f)) H'
def spChG (K : PySem.W.Frag) (ok : List Nat → List Nat → Bool) (G : (Nat → Nat) → Nat → List Nat → Tote.Odds) : Sp := fun vs H Q _ => ∃ (r d : Addr) (row f : List Nat) (c : Nat → Nat), vs = [.ref r, .ref d] ∧ SqL K H r (vN row) ∧ H d = some (.dK (ctK f c)) ∧ (f.map c).sum ≤ 281474976710655 ∧ ok row f = true ∧ Mir.FieldOk f ∧
  ∀ t H', Same H H' → H' t = some (.tup [.int ((G c (f.map c).sum row).over : Int), .int ((G c (f.map c).sum row).under : Int)]) → Q (.ref t) H'
structure Asks (P : Program) (w : World) (K : PySem.W.Frag) (mg : Str → Option Value) (base : Heap) (C C0 : Addr) : Prop where
  card : ∃ (f : Addr) (fd : FuncData), mg "read_card" = some (.ref f) ∧ PySem.W.keepIn K (.ref f) = true ∧ Binds K fd ["card"] [] ∧ FnOk P w K mg base (CXN P w C0) 4 f fd ["card"] (spCard K C C0)
  money : ∃ (f : Addr) (fd : FuncData), mg "is_money_right" = some (.ref f) ∧ PySem.W.keepIn K (.ref f) = true ∧ Binds K fd ["money", "pool"] [] ∧ FnOk P w K mg base CX0 3 f fd ["money", "pool"] (spRight K C)
  firsts : ∃ (f : Addr) (fd : FuncData), mg "is_on_firsts" = some (.ref f) ∧ PySem.W.keepIn K (.ref f) = true ∧ Binds K fd ["pool"] [] ∧ FnOk P w K mg base CX0 1 f fd ["pool"] (spFirsts C)
  cents : ∃ (f : Addr) (fd : FuncData), mg "cents_of_interests" = some (.ref f) ∧ PySem.W.keepIn K (.ref f) = true ∧ Binds K fd ["money", "interests"] [] ∧ FnOk P w K mg base CX0 1 f fd ["money", "interests"] (spCents K)
theorem wM_sum {f : List Nat} {m : Mir.Mon} (hf : f.Nodup) (hm : Mir.monOk f.length (-1) m = true) : (f.map (Mir.wM f m)).sum = Mir.totM m := by
  rw [← Mir.sum_on hm]
  congr 1
  refine List.ext_getElem? fun j => ?_
  rw [List.getElem?_map, List.getElem?_map]
  by_cases hj : j < f.length
  · rw [List.getElem?_range hj, List.getElem?_eq_getElem hj]
    show some (Mir.wM f m f[j]) = some (Mir.onM m j)
    unfold Mir.wM
    rw [if_pos (List.getElem_mem hj), find_nd hf (List.getElem?_eq_getElem hj)]
  · rw [List.getElem?_eq_none (by omega), List.getElem?_eq_none (by rw [List.length_range]; omega)]
    rfl
section
variable {P : Program} {w : World} {K : PySem.W.Frag} {mg : Str → Option Value} {base : Heap} {C0 : Addr}
def spAns (K : PySem.W.Frag) (fr fc : Addr) (ok : List Nat → List Nat → Bool) (G : (Nat → Nat) → Nat → List Nat → Tote.Odds) : Sp := fun vs H Q _ => ∃ (pool : Nat) (ca ma ra : Addr) (cs mny row : List Nat), vs = [.int (pool : Int), .ref ca, .ref ma, .ref ra, .ref fr, .ref fc] ∧
  SqL K H ca (vN cs) ∧ SqL K H ma (vN mny) ∧ SqL K H ra (vN row) ∧ cs.length ≤ 66000 ∧ mny.length ≤ 16000 ∧ mny.length % 2 = 0 ∧ row.length ≤ 100 ∧
  ∀ (H' : Hp) (p : Addr), H' p = some (.lst ((Mir.firsts (ok row) (fun f => G (Mir.wM f (pairsN mny)) (Mir.totM (pairsN mny)) row) pool cs (pairsN mny)).map V.int)) → Q (.ref p) H'
theorem scAns : FnScope ["pool", "card", "money", "row", "is_row_right", "chance_of", "pools", "asked", "chance"] ["pool", "card", "money", "row", "is_row_right", "chance_of"] (defScope s_answer_chance) := ⟨rfl, rfl, rfl, by decide +kernel, rfl, by decide +kernel, by decide +kernel⟩
theorem ok_ans {f C fr fc : Addr} {fd fdr fdc : FuncData} {pr pc : Str × Str} {ok : List Nat → List Nat → Bool} {G : (Nat → Nat) → Nat → List Nat → Tote.Odds} (F : Fun K "answer_chance" "answer_chance" s_answer_chance f fd) (T : TxtPool K C) (AK : Asks P w K mg base C C0)
    (kr : PySem.W.keepIn K (.ref fr) = true) (br : Binds K fdr [pr.1, pr.2] []) (Gr : FnOk P w K mg base CX0 1 fr fdr [pr.1, pr.2] (spRowG K ok))
    (kc : PySem.W.keepIn K (.ref fc) = true) (bc : Binds K fdc [pc.1, pc.2] []) (Gc : FnOk P w K mg base CX0 4 fc fdc [pc.1, pc.2] (spChG K ok G))
    (Z : Exn K mg "NoCard" C0) (gl : mg "len" = none) (gC : GV mg "LONGEST_CARD" (.int 65536)) (g2 : GV mg "CARD_TOO_LONG" (.int (-2))) (g8 : GV mg "NO_CARD" (.int (-8))) (g4 : GV mg "NO_SUCH_POOL" (.int (-4))) (g5 : GV mg "MONEY_NOT_RIGHT" (.int (-5))) (g1 : GV mg "WRONG_POOL_OR_ROW" (.int (-1))) (g3 : GV mg "NO_MONEY" (.int (-3))) :
    FnOk P w K mg base CX0 5 f fd ["pool", "card", "money", "row", "is_row_right", "chance_of"] (spAns K fr fc ok G) := by
  obtain ⟨f1, fd1, mg1, kp1, b1, G1⟩ := AK.card
  obtain ⟨f2, fd2, mg2, kp2, b2, G2⟩ := AK.money
  obtain ⟨f3, fd3, mg3, kp3, b3, G3⟩ := AK.firsts
  obtain ⟨f4, fd4, mg4, kp4, b4, G4⟩ := AK.cents
  refine F.ok scAns (fun vs H Q E h => ?_) (fun cdv A outer s H vs Q E hr h => ?_)
  · obtain ⟨pool, ca, ma, ra, cs, mny, row, rfl, _⟩ := h
    rfl
  · obtain ⟨pool, ca, ma, ra, cs, mny, row, rfl, hC, hM, hR, hcl, hml, hme, hrl, k⟩ := h
    have hr1 := hr.mono (show 1 ≤ 4 by decide)
    have hr3 := hr.mono (show 3 ≤ 4 by decide)
    refine ⟨_, pss_cons (ps_if (pt_cmpR op_gt (pe_callB call_len_seq (by rfl) gl PySem.boot_len (pa_cons (pv 1) pa_nil)) (pe_gl gC) (nomark _)) (pss_one (ps_ret (pe_lst (pa_cons (pe_gl g2) pa_nil)))) pss_nil)
      (pss_cons (ps_try (E := fun _ _ H' => Same H H' ∧ Mir.cardM cs = none) rfl rfl rfl Z (fun pn Eh hp => pss_one (ps_set (i := 6) scAns.nd rfl (Or.inl rfl) (pe_call G1 hr rfl mg1 kp1 b1 .nil hp (pa_cons (pv 1) pa_nil)))) (fun ea => pss_one (ps_ret (pe_lst (pa_cons (pe_gl g8) pa_nil)))))
      (pss_cons (ps_if (pt_cmpR op_ge (pv 0) (pe_callB call_len_seq (by rfl) gl PySem.boot_len (pa_cons (pv 6) pa_nil)) (nomark _)) (pss_one (ps_ret (pe_lst (pa_cons (pe_gl g4) pa_nil)))) pss_nil)
      (pss_cons (ps_set (i := 7) scAns.nd rfl (Or.inl rfl) (pe_ix ix_list (pv 6) (pv 0) (fun _ _ => rfl)))
      (pss_cons (ps_if (pt_not (pt_val (pe_call G2 hr3 rfl mg2 kp2 b2 .nil pass0 (pa_cons (pv 2) (pa_cons (pv 7) pa_nil))))) (pss_one (ps_ret (pe_lst (pa_cons (pe_gl g5) pa_nil)))) pss_nil)
      (pss_cons (ps_if (PW.pt (pw_or (pt_not (pt_val (pe_call G3 hr1 rfl mg3 kp3 b3 .nil pass0 (pa_cons (pv 7) pa_nil)))) (pw_or1 (pt_not (pt_val (pe_callV 4 Gr hr1 kr br .nil pass0 (pa_cons (pv 3) (pa_cons (pe_ix ix_list (pe_fld (pv 7) rfl) pe_int (fun _ _ => rfl)) pa_nil)))))))) (pss_one (ps_ret (pe_lst (pa_cons (pe_gl g1) pa_nil)))) pss_nil)
      (pss_cons (ps_if (pt_cmpR op_eq (pe_callB call_len_seq (by rfl) gl PySem.boot_len (pa_cons (pv 2) pa_nil)) pe_int (nomark _)) (pss_one (ps_ret (pe_lst (pa_cons (pe_gl g3) pa_nil)))) pss_nil)
      (pss_cons (ps_set (i := 8) scAns.nd rfl (Or.inl rfl) (pe_callV 5 Gc hr kc bc .nil pass0 (pa_cons (pv 3) (pa_cons (pe_call G4 hr1 rfl mg4 kp4 b4 .nil pass0 (pa_cons (pv 2) (pa_cons (pe_ix ix_list (pe_fld (pv 7) rfl) pe_int (fun _ _ => rfl)) pa_nil))) pa_nil))))
      (pss_one (ps_ret (pe_lst (pa_cons pe_int (pa_cons (pe_ix ix_tup (pv 8) pe_int (fun _ _ => rfl)) (pa_cons (pe_ix ix_tup (pv 8) pe_int (fun _ _ => rfl)) pa_nil))))))))))))), ?_⟩
    unfold Mir.firsts at k
    have say : ∀ (H1 : Hp) (z : Int), (∀ (H' : Hp) (p : Addr), H' p = some (.lst [V.int z]) → Q (.ref p) H') → ([V.int z]).length ≤ sizeLine ∧ ∀ p, H1 p = none → Q (.ref p) (upd H1 p (.lst [V.int z])) := fun H1 z q => ⟨by show 1 ≤ sizeLine; decide, fun p _ => q _ p upd_same⟩
    refine ⟨_, rfl, ca, vN cs, rfl, .inl hC, _, _, rfl, rfl, _, rfl, ?_⟩
    rw [vN_len]
    refine ite2 (fun e1 => ?_) (fun e1 => ?_)
    · have e1 := of_decide_eq_true e1
      rw [if_pos (by omega)] at k
      exact say _ _ k
    have e1 := ndec e1
    rw [if_neg (by omega)] at k
    refine ⟨⟨_, rfl, ca, cs, rfl, hC, hcl, ?_⟩, fun σ' H' hl sH => ?_⟩
    rotate_left
    · rw [sH.2] at k
      exact say _ _ k
    cases hcard : Mir.cardM cs with
    | none => exact fun H' sH => ⟨sH, rfl⟩
    | some ms =>
      rw [hcard] at k
      intro p as H1 s1 hp hP
      have k : ∀ (H' : Hp) (q : Addr), H' q = some (.lst ((match ms[pool]? with
        | none => [-4]
        | some p => if (Mir.monOk (Mir.countM p) (-1) (pairsN mny) && decide (Mir.totM (pairsN mny) ≤ 281474976710655)) = false then [-5]
          else if ¬ (p.kind = Mir.kw "place" ∧ p.size = 1 ∧ ok row (p.fields.headD []) = true) then [-1]
          else if pairsN mny = [] then [-3] else [0, ((G (Mir.wM (p.fields.headD []) (pairsN mny)) (Mir.totM (pairsN mny)) row).over : Int), ((G (Mir.wM (p.fields.headD []) (pairsN mny)) (Mir.totM (pairsN mny)) row).under : Int)]).map V.int)) → Q (.ref q) H' := k
      refine ⟨_, rfl, _, rfl, p, _, rfl, .inl (SqL.of hp), _, _, rfl, rfl, _, rfl, ?_⟩
      rw [List.length_map, hP.len]
      refine ite2 (fun e2 => ?_) (fun e2 => ?_)
      · have e2 : (ms.length : Int) ≤ (pool : Int) := of_decide_eq_true e2
        rw [List.getElem?_eq_none (by omega)] at k
        exact say _ _ k
      have e2 : ¬ (ms.length : Int) ≤ (pool : Int) := ndec e2
      obtain ⟨c, hc⟩ : ∃ c, as[pool]? = some c := ⟨as[pool]'(by rw [hP.len]; omega), List.getElem?_eq_getElem _⟩
      obtain ⟨m, hm, hpa⟩ := hP.at_ pool c hc
      rw [hm] at k
      have k : ∀ (H' : Hp) (q : Addr), H' q = some (.lst ((if (Mir.monOk (Mir.countM m) (-1) (pairsN mny) && decide (Mir.totM (pairsN mny) ≤ 281474976710655)) = false then [-5]
          else if ¬ (m.kind = Mir.kw "place" ∧ m.size = 1 ∧ ok row (m.fields.headD []) = true) then [-1]
          else if pairsN mny = [] then [-3] else [0, ((G (Mir.wM (m.fields.headD []) (pairsN mny)) (Mir.totM (pairsN mny)) row).over : Int), ((G (Mir.wM (m.fields.headD []) (pairsN mny)) (Mir.totM (pairsN mny)) row).under : Int)]).map V.int)) → Q (.ref q) H' := k
      have hpok : Mir.PoolOk m := (Mir.cardM_ok hcard).1 m (List.mem_of_getElem? hm)
      refine ⟨_, rfl, _, rfl, p, _, _, _, rfl, rfl, SqL.of hp, atI_nat (v := V.ref c) (by rw [List.getElem?_map, hc]; rfl), ?_⟩
      refine ⟨_, rfl, _, rfl, ma, c, mny, m, rfl, s1.seq hM, hml, hme, hpa, hpok, fun H2 s2 => ?_⟩
      refine ⟨_, rfl, ?_⟩
      cases hmr : (Mir.monOk (Mir.countM m) (-1) (pairsN mny) && decide (Mir.totM (pairsN mny) ≤ 281474976710655)) with
      | false =>
        rw [hmr, if_pos rfl] at k
        exact iteT (say _ _ k)
      | true =>
        rw [hmr, if_neg (by simp)] at k
        rw [Bool.and_eq_true] at hmr
        have htot := of_decide_eq_true hmr.2
        refine iteF ?_
        have hpa2 := hpa.same s2
        refine ⟨_, rfl, c, m, rfl, hpa2, _, rfl, ?_⟩
        by_cases hpl : m.kind = Mir.kw "place" ∧ m.size = 1
        rotate_left
        · rw [decide_eq_false hpl]
          rw [if_pos (fun z => hpl ⟨z.1, z.2.1⟩)] at k
          exact iteT (iteT (say _ _ k))
        rw [decide_eq_true hpl]
        refine iteF ?_
        have nlegs : m.kind ≠ Mir.kw "legs" := by
          rw [hpl.1]
          decide
        obtain ⟨fl, hfl, hsz, _⟩ := hpok.one nlegs
        have hhd : m.fields.headD [] = fl := by rw [hfl]; rfl
        have hfo : Mir.FieldOk fl := hpok.each fl (by rw [hfl]; simp)
        have hcnt : Mir.countM m = fl.length := by
          unfold Mir.countM
          rw [if_neg nlegs, if_pos hpl.1, hhd]
        obtain ⟨dx, l, bs, n, kd, h1, h2, h3, h4, h5⟩ := hpa2.ex
        obtain ⟨c0, hc0, hcc⟩ : ∃ c0, bs[0]? = some c0 ∧ H2 c0 = some (.lst (vN fl)) := by
          have hl : bs.length = 1 := by rw [h5.len, hfl]; rfl
          cases ea : bs[0]? with
          | none => rw [List.getElem?_eq_none_iff] at ea; omega
          | some c0 =>
            obtain ⟨g, hg, hcc⟩ := h5.at_ 0 c0 ea
            rw [hfl] at hg
            cases hg
            exact ⟨c0, rfl, hcc⟩
        have hat : atI (bs.map V.ref) ((0 : Nat) : Int) = some (V.ref c0) := atI_nat (by rw [List.getElem?_map, hc0]; rfl)
        rw [hhd] at k
        refine ⟨rfl, _, rfl, _, rfl, c, C, dx, _, _, rfl, h1, T.cl, T.nF, pf_fields _ _ _ _, l, _, _, _, rfl, rfl, SqL.of h4, hat, ra, c0, row, fl, rfl, (s1.trans s2).seq hR, SqL.of hcc, hrl, hfo, fun H3 s3 => ?_⟩
        refine ⟨_, rfl, ?_⟩
        cases hok : ok row fl with
        | false =>
          rw [if_pos (fun z => by rw [hok] at z; exact Bool.false_ne_true z.2.2)] at k
          exact iteT (say _ _ k)
        | true =>
          rw [if_neg (fun z => z ⟨hpl.1, hpl.2, hok⟩)] at k
          refine iteF ?_
          have s13 := (s1.trans s2).trans s3
          refine ⟨_, rfl, ma, vN mny, rfl, .inl (s13.seq hM), rfl, _, rfl, ?_⟩
          rw [vN_len, int_dec]
          refine ite2 (fun e3 => ?_) (fun e3 => ?_)
          · have e3 : mny.length = 0 := by
              have := of_decide_eq_true e3
              omega
            rw [if_pos (List.eq_nil_of_length_eq_zero (by rw [pairsN_len]; omega))] at k
            exact say _ _ k
          have e3 : ¬ mny.length = 0 := fun z => e3 (decide_eq_true (by omega))
          rw [if_neg (fun z => by have e := congrArg List.length z; rw [pairsN_len] at e; have e : mny.length / 2 = 0 := e; omega)] at k
          have hmon : Mir.monOk fl.length (-1) (pairsN mny) = true := by
            rw [← hcnt]
            exact hmr.1
          have hsum := wM_sum hfo.nd hmon
          refine ⟨rfl, _, rfl, _, rfl, _, rfl, c, C, dx, _, _, rfl, s3 _ _ h1, T.cl, T.nF, pf_fields _ _ _ _, l, _, _, _, rfl, rfl, SqL.of (s3 _ _ h4), hat, ma, c0, mny, fl, rfl, s13.seq hM, SqL.of (s3 _ _ hcc), hml, hme, hfo, hmon, fun d H4 s4 hd => ?_⟩
          refine ⟨ra, d, row, fl, Mir.wM fl (pairsN mny), rfl, (s13.trans s4).seq hR, hd, by rw [hsum]; exact htot, hok, hfo, fun t H5 s5 ht => ?_⟩
          rw [hsum] at ht
          refine ⟨_, rfl, t, _, _, _, rfl, rfl, SqT.of ht, rfl, _, rfl, t, _, _, _, rfl, rfl, SqT.of ht, rfl, ?_⟩
          refine ⟨(by show 3 ≤ sizeLine; decide), fun q hq => ?_⟩
          refine k _ q ?_
          rw [upd_same]
          rfl
end
end Od
set_option Elab.async false
set_option linter.all false
set_option maxRecDepth 100000
set_option maxHeartbeats 8000000
namespace Od
open PySem PySem.Spec PyProof.Rows L2
section
variable {P : Program} {w : World} {K : PySem.W.Frag} {h base : Heap} {mg : Str → Option Value}
def DefK (K : PySem.W.Frag) (mg : Str → Option Value) (x : Str) (st : Stmt) : Prop := ∃ (f : Addr) (fd : FuncData), mg x = some (.ref f) ∧ Fun K x x st f fd
theorem def_mk {x : Str} {st : Stmt} {f : Addr} {oc : Value} {od an : Option Addr} {osl : Array (Option Value)} {kV doc pm cdv ct : Value} (X : K.In h) (G : h.Ns mainGlobals mg) (a : PySem.W.nsIn K mainGlobals x = some (some (.ref f)))
    (l : K.lookup f = some ⟨oc, od, .func (PySem.W.fnOf x x (defArgs st) (defBody st) (defScope st) .none kV doc pm an cdv ct), osl⟩) (c : PySem.W.codeIn K cdv x = true) (k : PySem.W.keepIn K (.ref f) = true) : DefK K mg x st := ⟨f, _, PySem.W.mg_of X G a, fun_mk l c k⟩
theorem gv_int {x : Str} {z : Int} {t : Tok} (X : K.In h) (G : h.Ns mainGlobals mg) (a : PySem.W.nsIn K mainGlobals x = some (some (.int z t))) : GV mg x (.int z) := ⟨_, PySem.W.mg_of X G a, ⟨_, rfl⟩⟩
theorem gv_str {x : Str} {z : Str} {t : Tok} (X : K.In h) (G : h.Ns mainGlobals mg) (a : PySem.W.nsIn K mainGlobals x = some (some (.str z t))) : GV mg x (.str z) := ⟨_, PySem.W.mg_of X G a, ⟨_, rfl⟩⟩
theorem tup_mk {x : Str} {a : Addr} {dd : Option Addr} {sl : Array (Option Value)} {n : Nat} {s1 s2 s3 : Str} {t1 t2 t3 : Tok} (X : K.In h) (G : h.Ns mainGlobals mg) (e : PySem.W.nsIn K mainGlobals x = some (some (.ref a)))
    (l : K.lookup a = some ⟨.type "tuple", dd, .seq #[.str s1 t1, .str s2 t2, .str s3 t3] n, sl⟩) : TupK K mg x [.str s1, .str s2, .str s3] :=
  ⟨a, ⟨_, PySem.W.mg_of X G e, rfl⟩, fun H => .inr ⟨_, _, n, l, rfl, rfl, (by show 3 ≤ sizeLine; decide), .cons ⟨t1, rfl⟩ (.cons ⟨t2, rfl⟩ (.cons ⟨t3, rfl⟩ .nil))⟩⟩
theorem pair_mk {a : Addr} {dd : Option Addr} {sl : Array (Option Value)} {n : Nat} {z : Int} {s : Str} {t1 t2 : Tok} (l : K.lookup a = some ⟨.type "tuple", dd, .seq #[.int z t1, .str s t2] n, sl⟩) (H : Hp) : SqT K H a [.int z, .str s] :=
  .inr ⟨_, _, n, l, rfl, rfl, (by show 2 ≤ sizeLine; decide), .cons ⟨t1, rfl⟩ (.cons ⟨t2, rfl⟩ .nil)⟩
theorem two_mk {a : Addr} {dd : Option Addr} {sl : Array (Option Value)} {n : Nat} {z y : Int} {t1 t2 : Tok} (l : K.lookup a = some ⟨.type "tuple", dd, .seq #[.int z t1, .int y t2] n, sl⟩) (H : Hp) : SqT K H a [.int z, .int y] :=
  .inr ⟨_, _, n, l, rfl, rfl, (by show 2 ≤ sizeLine; decide), .cons ⟨t1, rfl⟩ (.cons ⟨t2, rfl⟩ .nil)⟩
theorem fix_mk {x : Str} {a a0 a1 a2 a3 a4 a5 a6 : Addr} {dd d0 d1 d2 d3 d4 d5 d6 : Option Addr} {sl l0 l1 l2 l3 l4 l5 l6 : Array (Option Value)} {n n0 n1 n2 n3 n4 n5 n6 : Nat} {t0 t1 t2 t3 t4 t5 t6 u0 u1 u2 u3 u4 u5 u6 : Tok} (X : K.In h) (G : h.Ns mainGlobals mg)
    (e : PySem.W.nsIn K mainGlobals x = some (some (.ref a))) (l : K.lookup a = some ⟨.type "tuple", dd, .seq #[.ref a0, .ref a1, .ref a2, .ref a3, .ref a4, .ref a5, .ref a6] n, sl⟩)
    (e0 : K.lookup a0 = some ⟨.type "tuple", d0, .seq #[.int 0 t0, .str (Str.ofString "pool") u0] n0, l0⟩) (e1 : K.lookup a1 = some ⟨.type "tuple", d1, .seq #[.int 4 t1, .str (Str.ofString "from") u1] n1, l1⟩)
    (e2 : K.lookup a2 = some ⟨.type "tuple", d2, .seq #[.int 6 t2, .str (Str.ofString "take") u2] n2, l2⟩) (e3 : K.lookup a3 = some ⟨.type "tuple", d3, .seq #[.int 8 t3, .str (Str.ofString "break") u3] n3, l3⟩)
    (e4 : K.lookup a4 = some ⟨.type "tuple", d4, .seq #[.int 10 t4, .str (Str.ofString "least") u4] n4, l4⟩) (e5 : K.lookup a5 = some ⟨.type "tuple", d5, .seq #[.int 12 t5, .str (Str.ofString "unit") u5] n5, l5⟩)
    (e6 : K.lookup a6 = some ⟨.type "tuple", d6, .seq #[.int 14 t6, .str (Str.ofString "none") u6] n6, l6⟩) : FixK K mg x := by
  refine ⟨a, [a0, a1, a2, a3, a4, a5, a6], ⟨_, PySem.W.mg_of X G e, rfl⟩, fun H => .inr ⟨_, _, n, l, rfl, rfl, (by show 7 ≤ sizeLine; decide), .cons rfl (.cons rfl (.cons rfl (.cons rfl (.cons rfl (.cons rfl (.cons rfl .nil))))))⟩, rfl, fun i b p hi hp H => ?_⟩
  match i, hi, hp with
  | 0, hi, hp => cases hi; cases hp; exact pair_mk e0 H
  | 1, hi, hp => cases hi; cases hp; exact pair_mk e1 H
  | 2, hi, hp => cases hi; cases hp; exact pair_mk e2 H
  | 3, hi, hp => cases hi; cases hp; exact pair_mk e3 H
  | 4, hi, hp => cases hi; cases hp; exact pair_mk e4 H
  | 5, hi, hp => cases hi; cases hp; exact pair_mk e5 H
  | 6, hi, hp => cases hi; cases hp; exact pair_mk e6 H
  | i + 7, hi, hp => simp at hi
theorem isStr_tl (z : Str) (s : String) (t : Tok) : Value.isStrOf z (.str (Str.ofString s) t) = decide (TL.tl z = Mir.kw s) := by
  show (Str.ofString s == z) = _
  rw [Bool.eq_iff_iff]
  simp only [beq_iff_eq, decide_eq_true_eq]
  constructor
  · intro e
    rw [← e]
    exact tl_kw s
  · intro e
    exact TL.ext_tl ((tl_kw s).trans e.symm)
theorem siz_mk {a b1 b2 b3 b4 : Addr} {x1 x2 x3 x4 : Int} {u1 u2 u3 u4 : Tok} {d1 d2 d3 d4 : Option Addr} {l1 l2 l3 l4 : Array (Option Value)} {n n1 n2 n3 n4 : Nat} {t1 t2 t3 t4 v1 v2 v3 v4 : Tok} (X : K.In h) (G : h.Ns mainGlobals mg)
    (e : PySem.W.nsIn K mainGlobals "SIZES_OF_KIND" = some (some (.ref a)))
    (l : K.lookup a = some ⟨.type "dict", none, .dict #[⟨x1, .str (Str.ofString "place") u1, .ref b1⟩, ⟨x2, .str (Str.ofString "order") u2, .ref b2⟩, ⟨x3, .str (Str.ofString "any") u3, .ref b3⟩, ⟨x4, .str (Str.ofString "legs") u4, .ref b4⟩] n, #[]⟩)
    (kl : PySem.W.KeysLit w.params [⟨x1, .str (Str.ofString "place") u1, .ref b1⟩, ⟨x2, .str (Str.ofString "order") u2, .ref b2⟩, ⟨x3, .str (Str.ofString "any") u3, .ref b3⟩, ⟨x4, .str (Str.ofString "legs") u4, .ref b4⟩])
    (hs : (a == sysModules) = false)
    (e1 : K.lookup b1 = some ⟨.type "tuple", d1, .seq #[.int 1 t1, .int 4 v1] n1, l1⟩) (e2 : K.lookup b2 = some ⟨.type "tuple", d2, .seq #[.int 2 t2, .int 4 v2] n2, l2⟩)
    (e3 : K.lookup b3 = some ⟨.type "tuple", d3, .seq #[.int 2 t3, .int 3 v3] n3, l3⟩) (e4 : K.lookup b4 = some ⟨.type "tuple", d4, .seq #[.int 2 t4, .int 6 v4] n4, l4⟩) : SizK K w mg := by
  refine ⟨a, fun z => if TL.tl z = Mir.kw "place" then some (.ref b1) else if TL.tl z = Mir.kw "order" then some (.ref b2) else if TL.tl z = Mir.kw "any" then some (.ref b3) else if TL.tl z = Mir.kw "legs" then some (.ref b4) else none, ⟨_, PySem.W.mg_of X G e, rfl⟩, ⟨_, n, l, kl, hs, fun z => ?_⟩, fun z => ?_⟩
  · unfold findBy
    rw [List.find?_toArray]
    rw [List.find?_cons]
    simp only [isStr_tl]
    by_cases h1 : TL.tl z = Mir.kw "place"
    · simp only [h1, decide_true, if_true, Option.map_some]
      exact ⟨_, rfl, rfl⟩
    simp only [h1, decide_false, if_false]
    rw [List.find?_cons]
    simp only [isStr_tl]
    by_cases h2 : TL.tl z = Mir.kw "order"
    · simp only [h2, decide_true, if_true, Option.map_some]
      exact ⟨_, rfl, rfl⟩
    simp only [h2, decide_false, if_false]
    rw [List.find?_cons]
    simp only [isStr_tl]
    by_cases h3 : TL.tl z = Mir.kw "any"
    · simp only [h3, decide_true, if_true, Option.map_some]
      exact ⟨_, rfl, rfl⟩
    simp only [h3, decide_false, if_false]
    rw [List.find?_cons]
    simp only [isStr_tl]
    by_cases h4 : TL.tl z = Mir.kw "legs"
    · simp only [h4, decide_true, if_true, Option.map_some]
      exact ⟨_, rfl, rfl⟩
    simp only [h4, decide_false, if_false]
    exact trivial
  · unfold Mir.sizesM
    dsimp only
    by_cases h1 : TL.tl z = Mir.kw "place"
    · rw [if_pos h1, if_pos h1]
      exact ⟨b1, rfl, fun H => two_mk e1 H⟩
    rw [if_neg h1, if_neg h1]
    by_cases h2 : TL.tl z = Mir.kw "order"
    · rw [if_pos h2, if_pos h2]
      exact ⟨b2, rfl, fun H => two_mk e2 H⟩
    rw [if_neg h2, if_neg h2]
    by_cases h3 : TL.tl z = Mir.kw "any"
    · rw [if_pos h3, if_pos h3]
      exact ⟨b3, rfl, fun H => two_mk e3 H⟩
    rw [if_neg h3, if_neg h3]
    by_cases h4 : TL.tl z = Mir.kw "legs"
    · rw [if_pos h4, if_pos h4]
      exact ⟨b4, rfl, fun H => two_mk e4 H⟩
    rw [if_neg h4, if_neg h4]
def ExnK (K : PySem.W.Frag) (mg : Str → Option Value) (C0 : Addr) : Prop := Exn K mg "NoCard" C0
theorem exn_mk {C0 : Addr} (X : K.In h) (G : h.Ns mainGlobals mg) (a : PySem.W.nsIn K mainGlobals "NoCard" = some (some (.ref C0))) (ex : PySem.W.excIn K C0 [.type "Exception", .type "BaseException", .type "object"] "Exception.__new__" = true) (ma : PySem.W.exmOne K (.ref C0) (.ref C0) = some true) : ∃ C0, ExnK K mg C0 :=
  ⟨C0, PySem.W.mg_of X G a, ex, ma⟩
def PoolK (K : PySem.W.Frag) (mg : Str → Option Value) : Prop := ∃ (C fI : Addr) (fd : FuncData), TxtPool K C ∧ Mk K C fI ∧ mg "Pool" = some (.ref C) ∧ Fun K "__init__" "Pool.__init__" s_pool_init fI fd
theorem pool_mk {C fI : Addr} {oc : Value} {od an : Option Addr} {osl : Array (Option Value)} {kV doc pm cdv ct : Value} (X : K.In h) (G : h.Ns mainGlobals mg) (a : PySem.W.nsIn K mainGlobals "Pool" = some (some (.ref C)))
    (i : PySem.W.findIn K (.ref C) "__init__" = some (some (.ref fI))) (fn : PySem.W.isFn K (.ref fI) = true) (l : K.lookup fI = some ⟨oc, od, .func (PySem.W.fnOf "__init__" "Pool.__init__" (defArgs s_pool_init) (defBody s_pool_init) (defScope s_pool_init) .none kV doc pm an cdv ct), osl⟩)
    (c : PySem.W.codeIn K cdv "Pool.__init__" = true) (k : PySem.W.keepIn K (.ref fI) = true) (pg : PySem.W.plainGet K C Str.empty = true) (hd : PySem.W.hasDictIn K C = true) (po : PySem.W.plainOver K C = true)
    (sa : PySem.W.findIn K (.ref C) "__setattr__" = some (some (.builtin "object.__setattr__"))) (mk : PySem.W.makesIn K C = true) (kc : PySem.W.keepIn K (.ref C) = true)
    (n1 : PySem.W.findIn K (.ref C) "name" = some none) (n2 : PySem.W.findIn K (.ref C) "kind" = some none) (n3 : PySem.W.findIn K (.ref C) "size" = some none) (n4 : PySem.W.findIn K (.ref C) "fields" = some none) : PoolK K mg :=
  ⟨C, fI, _, ⟨⟨pg, hd, po, sa⟩, n1, n2, n3, n4⟩, ⟨mk, i, fn, kc⟩, PySem.W.mg_of X G a, fun_mk l c k⟩
structure TextK (w : World) (K : PySem.W.Frag) (mg : Str → Option Value) : Prop where
  exn : ∃ C0, ExnK K mg C0
  pool : PoolK K mg
  len : mg "len" = none
  int : mg "int" = none
  range : mg "range" = none
  ord : mg "ord" = none
  sum : mg "sum" = none
  letters : GV mg "LETTERS" (.str (Str.ofString "abcdefghijklmnopqrstuvwxyz"))
  signs : GV mg "SIGNS" (.str signsS)
  name12 : GV mg "LONGEST_NAME" (.int 12)
  num5 : GV mg "LONGEST_NUMBER" (.int 5)
  races : GV mg "MOST_RACES" (.int 16)
  pools : GV mg "MOST_POOLS" (.int 64)
  runners : GV mg "MOST_RUNNERS" (.int 24)
  couples : GV mg "MOST_COUPLES" (.int 8)
  take : GV mg "MOST_TAKE" (.int 400)
  brk : GV mg "MOST_BREAK" (.int 1000)
  unit : GV mg "MOST_UNIT" (.int 10000)
  words : GV mg "WORDS_OF_POOL" (.int 16)
  pairs : GV mg "MOST_PAIRS" (.int 262144)
  cents : GV mg "MOST_CENTS" (.int 281474976710655)
  c2 : GV mg "CARD_TOO_LONG" (.int (-2))
  c8 : GV mg "NO_CARD" (.int (-8))
  c4 : GV mg "NO_SUCH_POOL" (.int (-4))
  c5 : GV mg "MONEY_NOT_RIGHT" (.int (-5))
  c1 : GV mg "WRONG_POOL_OR_ROW" (.int (-1))
  c3 : GV mg "NO_MONEY" (.int (-3))
  longest : GV mg "LONGEST_CARD" (.int 65536)
  fixed : FixK K mg "FIXED_WORDS_OF_POOL"
  sizes : SizK K w mg
  ways : TupK K mg "WAYS_OF_NONE" [.str (Str.ofString "refund"), .str (Str.ofString "carry"), .str (Str.ofString "fewer")]
  d_read_card : DefK K mg "read_card" s_read_card
  d_lines_of : DefK K mg "lines_of" s_lines_of
  d_text_of : DefK K mg "text_of" s_text_of
  d_check_day : DefK K mg "check_day" s_check_day
  d_check_name : DefK K mg "check_name" s_check_name
  d_check_names_differ : DefK K mg "check_names_differ" s_check_names_differ
  d_read_number : DefK K mg "read_number" s_read_number
  d_read_race : DefK K mg "read_race" s_read_race
  d_read_pool : DefK K mg "read_pool" s_read_pool
  d_check_fixed_words : DefK K mg "check_fixed_words" s_check_fixed_words
  d_check_terms : DefK K mg "check_terms" s_check_terms
  d_check_none : DefK K mg "check_none" s_check_none
  d_fields_of : DefK K mg "fields_of" s_fields_of
  d_greatest_divisor : DefK K mg "greatest_divisor" s_greatest_divisor
  d_lowest_terms : DefK K mg "lowest_terms" s_lowest_terms
  d_chance_of_order : DefK K mg "chance_of_order" s_chance_of_order
  d_product : DefK K mg "product" s_product
  d_count_combinations : DefK K mg "count_combinations" s_count_combinations
  d_is_money_right : DefK K mg "is_money_right" s_is_money_right
  d_cents_of_interests : DefK K mg "cents_of_interests" s_cents_of_interests
  d_answer_chance : DefK K mg "answer_chance" s_answer_chance
  d_is_on_firsts : DefK K mg "is_on_firsts" s_is_on_firsts
theorem TextK.chance (T : TextK w K mg) : ∃ (f : Addr) (fd : FuncData), mg "chance_of_order" = some (.ref f) ∧ PySem.W.keepIn K (.ref f) = true ∧ Binds K fd ["row", "cents_of"] [] ∧ FnOk P w K mg base CX0 3 f fd ["row", "cents_of"] (spChance K) := by
  obtain ⟨f, fd, m, F⟩ := T.d_chance_of_order
  obtain ⟨fl, fdl, ml, Fl⟩ := T.d_lowest_terms
  obtain ⟨fg, fdg, mgd, Fg⟩ := T.d_greatest_divisor
  exact ⟨f, fd, m, F.kp, F.binds (ps := ["row", "cents_of"]) fun _ _ _ _ _ _ us hl => match us, hl with | [_, _], _ => rfl,
    ok_chance F Fl ml (Fl.binds (ps := ["over", "under"]) fun _ _ _ _ _ _ us hl => match us, hl with | [_, _], _ => rfl) Fg mgd (Fg.binds (ps := ["one", "other"]) fun _ _ _ _ _ _ us hl => match us, hl with | [_, _], _ => rfl) T.sum⟩
theorem TextK.reads (T : TextK w K mg) {C fI C0 : Addr} {fdI : FuncData} (Z : Exn K mg "NoCard" C0) (TP : TxtPool K C) (M : Mk K C fI) (mgP : mg "Pool" = some (.ref C)) (FI : Fun K "__init__" "Pool.__init__" s_pool_init fI fdI) : Reads P w K mg base C C0 := by
  obtain ⟨f1, fd1, m1, F1⟩ := T.d_lines_of
  obtain ⟨f2, fd2, m2, F2⟩ := T.d_text_of
  obtain ⟨f3, fd3, m3, F3⟩ := T.d_check_day
  obtain ⟨f4, fd4, m4, F4⟩ := T.d_check_name
  obtain ⟨f5, fd5, m5, F5⟩ := T.d_check_names_differ
  obtain ⟨f6, fd6, m6, F6⟩ := T.d_read_number
  obtain ⟨f7, fd7, m7, F7⟩ := T.d_read_race
  obtain ⟨f8, fd8, m8, F8⟩ := T.d_read_pool
  obtain ⟨f9, fd9, m9, F9⟩ := T.d_check_fixed_words
  obtain ⟨f10, fd10, m10, F10⟩ := T.d_check_terms
  obtain ⟨f11, fd11, m11, F11⟩ := T.d_check_none
  obtain ⟨f12, fd12, m12, F12⟩ := T.d_fields_of
  have b1 := F1.binds (ps := ["card"]) fun _ _ _ _ _ _ us hl => match us, hl with | [_], _ => rfl
  have b2 := F2.binds (ps := ["card"]) fun _ _ _ _ _ _ us hl => match us, hl with | [_], _ => rfl
  have b3 := F3.binds (ps := ["words"]) fun _ _ _ _ _ _ us hl => match us, hl with | [_], _ => rfl
  have b4 := F4.binds (ps := ["word"]) fun _ _ _ _ _ _ us hl => match us, hl with | [_], _ => rfl
  have b5 := F5.binds (ps := ["pools"]) fun _ _ _ _ _ _ us hl => match us, hl with | [_], _ => rfl
  have b6 := F6.binds (ps := ["word", "lowest", "highest"]) fun _ _ _ _ _ _ us hl => match us, hl with | [_, _, _], _ => rfl
  have b7 := F7.binds (ps := ["words"]) fun _ _ _ _ _ _ us hl => match us, hl with | [_], _ => rfl
  have b8 := F8.binds (ps := ["words", "races"]) fun _ _ _ _ _ _ us hl => match us, hl with | [_, _], _ => rfl
  have b9 := F9.binds (ps := ["words"]) fun _ _ _ _ _ _ us hl => match us, hl with | [_], _ => rfl
  have b10 := F10.binds (ps := ["take_word", "break_word", "least_word", "unit_word"]) fun _ _ _ _ _ _ us hl => match us, hl with | [_, _, _, _], _ => rfl
  have b11 := F11.binds (ps := ["word", "kind"]) fun _ _ _ _ _ _ us hl => match us, hl with | [_, _], _ => rfl
  have b12 := F12.binds (ps := ["kind", "size", "race", "races"]) fun _ _ _ _ _ _ us hl => match us, hl with | [_, _, _, _], _ => rfl
  have bI := FI.binds (ps := ["self", "name", "kind", "size", "fields"]) fun _ _ _ _ _ _ us hl => match us, hl with | [_, _, _, _, _], _ => rfl
  exact ⟨⟨f1, fd1, m1, F1.kp, b1, ok_lines F1 F2 m2 b2 Z T.len T.ord T.signs⟩, ⟨f3, fd3, m3, F3.kp, b3, ok_day F3 F4 m4 b4 Z T.len T.name12 T.letters⟩, ⟨f7, fd7, m7, F7.kp, b7, ok_race F7 F6 m6 b6 Z T.len T.int T.range T.num5 T.couples T.runners⟩,
    ⟨f8, fd8, m8, F8.kp, b8, ok_pool F8 TP M mgP FI bI F9 m9 b9 F4 m4 b4 F6 m6 b6 F10 m10 b10 F11 m11 b11 F12 m12 b12 Z T.len T.int T.words T.fixed T.name12 T.letters T.num5 T.take T.brk T.unit T.ways T.sizes⟩, ⟨f5, fd5, m5, F5.kp, b5, ok_differ F5 TP Z⟩⟩
theorem TextK.asks (T : TextK w K mg) : ∃ C C0 : Addr, TxtPool K C ∧ Exn K mg "NoCard" C0 ∧ ∀ base : Heap, Asks P w K mg base C C0 := by
  obtain ⟨C0, Z⟩ := T.exn
  obtain ⟨C, fI, fdI, TP, M, mgP, FI⟩ := T.pool
  refine ⟨C, C0, TP, Z, fun base => ?_⟩
  obtain ⟨f1, fd1, m1, F1⟩ := T.d_read_card
  obtain ⟨f2, fd2, m2, F2⟩ := T.d_is_money_right
  obtain ⟨f3, fd3, m3, F3⟩ := T.d_is_on_firsts
  obtain ⟨f4, fd4, m4, F4⟩ := T.d_cents_of_interests
  obtain ⟨f5, fd5, m5, F5⟩ := T.d_count_combinations
  obtain ⟨f6, fd6, m6, F6⟩ := T.d_product
  have b1 := F1.binds (ps := ["card"]) fun _ _ _ _ _ _ us hl => match us, hl with | [_], _ => rfl
  have b2 := F2.binds (ps := ["money", "pool"]) fun _ _ _ _ _ _ us hl => match us, hl with | [_, _], _ => rfl
  have b3 := F3.binds (ps := ["pool"]) fun _ _ _ _ _ _ us hl => match us, hl with | [_], _ => rfl
  have b4 := F4.binds (ps := ["money", "interests"]) fun _ _ _ _ _ _ us hl => match us, hl with | [_, _], _ => rfl
  have b5 := F5.binds (ps := ["pool"]) fun _ _ _ _ _ _ us hl => match us, hl with | [_], _ => rfl
  have b6 := F6.binds (ps := ["numbers"]) fun _ _ _ _ _ _ us hl => match us, hl with | [_], _ => rfl
  exact ⟨⟨f1, fd1, m1, F1.kp, b1, ok_card F1 (T.reads Z TP M mgP FI) Z T.len T.races T.pools⟩, ⟨f2, fd2, m2, F2.kp, b2, ok_right F2 TP F5 m5 b5 F6 m6 b6 T.len T.range T.pairs T.cents⟩, ⟨f3, fd3, m3, F3.kp, b3, ok_firsts F3 TP⟩, ⟨f4, fd4, m4, F4.kp, b4, ok_cents F4 T.len T.range⟩⟩
end
end Od
set_option Elab.async false
set_option linter.all false
set_option maxRecDepth 100000
set_option maxHeartbeats 8000000
set_option exponentiation.threshold 10000
namespace Od
open PySem PySem.Spec PyProof.Rows L2
section
variable {P : Program} {w : World} {K : PySem.W.Frag} {mg : Str → Option Value} {base : Heap}
theorem mul4000 {n m : Nat} (h : n < 2 ^ 4000) (k : m < 2 ^ 4000) : n * m < 2 ^ 8000 := by
  rw [p4000]
  exact Nat.mul_lt_mul'' h k
def spAdd : Sp := fun vs H Q _ => ∃ a b c d : Nat, vs = [.int (a : Int), .int (b : Int), .int (c : Int), .int (d : Int)] ∧ 0 < b ∧ 0 < d ∧ a < 2 ^ 4000 ∧ b < 2 ^ 4000 ∧ c < 2 ^ 4000 ∧ d < 2 ^ 4000 ∧
  ∀ p, H p = none → Q (.ref p) (upd H p (.tup [.int ((Tote.Odds.plus ⟨a, b⟩ ⟨c, d⟩).over : Int), .int ((Tote.Odds.plus ⟨a, b⟩ ⟨c, d⟩).under : Int)]))
theorem scAdd : FnScope ["over", "under", "other_over", "other_under"] ["over", "under", "other_over", "other_under"] (defScope s_add_fractions) := ⟨rfl, rfl, rfl, by decide +kernel, rfl, by decide +kernel, by decide +kernel⟩
theorem ok_add {f fl g : Addr} {fd fdL fdG : FuncData} (F : Fun K "add_fractions" "add_fractions" s_add_fractions f fd) (FL : Fun K "lowest_terms" "lowest_terms" s_lowest_terms fl fdL) (mgL : mg "lowest_terms" = some (.ref fl)) (bL : Binds K fdL ["over", "under"] [])
    (FG : Fun K "greatest_divisor" "greatest_divisor" s_greatest_divisor g fdG) (mgG : mg "greatest_divisor" = some (.ref g)) (bG : Binds K fdG ["one", "other"] []) : FnOk P w K mg base CX0 3 f fd ["over", "under", "other_over", "other_under"] spAdd := by
  have G : FnOk P w K mg base CX0 2 fl fdL ["over", "under"] spLow := ok_low FL FG mgG bG
  refine F.ok scAdd (fun vs H Q E h => ?_) (fun cdv A outer s H vs Q E hr h => ?_)
  · obtain ⟨a, b, c, d, rfl, _⟩ := h
    rfl
  · obtain ⟨a, b, c, d, rfl, hb0, hd0, ha, hb, hc, hd, k⟩ := h
    refine ⟨_, pss_one (ps_ret (pe_call G hr rfl mgL FL.kp bL .nil pass0 (pa_cons (pe_op op_add (pe_op op_mulB (pv 0) (pv 3)) (pe_op op_mulB (pv 2) (pv 1))) (pa_cons (pe_op op_mulB (pv 1) (pv 3)) pa_nil)))), ?_⟩
    have ba := bits_great (lt8000 ha)
    have bb := bits_great (lt8000 hb)
    have bc := bits_great (lt8000 hc)
    have bd := bits_great (lt8000 hd)
    refine ⟨_, rfl, _, rfl, _, _, rfl, rfl, ⟨ba, bd⟩, _, rfl, _, rfl, _, _, rfl, rfl, ⟨bc, bb⟩, _, _, rfl, rfl, ?_⟩
    refine ⟨_, rfl, _, rfl, _, _, rfl, rfl, ⟨bb, bd⟩, ?_⟩
    refine ⟨a * d + c * b, b * d, ?_, Nat.mul_pos hb0 hd0, mul4000 hb hd, k⟩
    rw [Int.natCast_add, Int.natCast_mul, Int.natCast_mul, Int.natCast_mul]
    rfl
end
def rs : Nat → List Nat → Bool
  | _, [] => true
  | b, x :: l => decide (b < x) && rs x l
theorem rs_rises : ∀ (x : Nat) (l : List Nat), rs x l = Tote.risesN (x :: l)
  | x, [] => rfl
  | x, y :: l => by
    show (decide (x < y) && rs y l) = (decide (x < y) && Tote.risesN (y :: l))
    rw [rs_rises y l]
theorem rowAny_eq {row f : List Nat} (hf : Mir.FieldOk f) : Mir.rowAny row f = (decide (2 ≤ row.length) && (decide (row.length ≤ 3) && (row.all f.contains && rs 0 row))) := by
  unfold Mir.rowAny
  congr 1
  congr 1
  cases ha : row.all f.contains with
  | false => simp
  | true =>
    rw [Bool.and_true, Bool.true_and]
    cases row with
    | nil => rfl
    | cons x l =>
      have hx : x ∈ f := List.contains_iff_mem.mp (List.all_eq_true.mp ha x List.mem_cons_self)
      have := (hf.rng x hx).1
      show _ = (decide (0 < x) && rs x l)
      rw [decide_eq_true (show 0 < x by omega), Bool.true_and, rs_rises]
section
variable {P : Program} {w : World} {K : PySem.W.Frag} {mg : Str → Option Value} {base : Heap}
theorem scSet : FnScope ["row", "interests", "interest_before", "interest"] ["row", "interests"] (defScope s_is_set) := ⟨rfl, rfl, rfl, by decide +kernel, rfl, by decide +kernel, by decide +kernel⟩
theorem ok_isset {f : Addr} {fd : FuncData} (F : Fun K "is_set" "is_set" s_is_set f fd) (g2 : GV mg "SMALLEST_SET" (.int 2)) (g3 : GV mg "LARGEST_SET" (.int 3)) (gl : mg "len" = none) : FnOk P w K mg base CX0 1 f fd ["row", "interests"] (spRowG K Mir.rowAny) := by
  refine F.ok scSet (fun vs H Q E h => ?_) (fun cdv A outer s H vs Q E hr h => ?_)
  · obtain ⟨r, a, row, fl, rfl, _⟩ := h
    rfl
  · obtain ⟨r, a, row, fl, rfl, hR, hF, hl, fo, k⟩ := h
    have k := k H (Same.refl H)
    rw [rowAny_eq fo] at k
    refine ⟨_, pss_cons (ps_if (PW.pt (pw_or (pt_cmpR op_lt (pe_callB call_len_seq (by rfl) gl PySem.boot_len (pa_cons (pv 0) pa_nil)) (pe_gl g2) (nomark _)) (pw_or1 (pt_cmpR op_gt (pe_callB call_len_seq (by rfl) gl PySem.boot_len (pa_cons (pv 0) pa_nil)) (pe_gl g3) (nomark _))))) (pss_one (ps_ret pe_bl)) pss_nil)
      (pss_cons (ps_set (i := 2) scSet.nd rfl (Or.inl rfl) pe_int)
      (pss_cons (ps_for PassesOwn.never rfl (pi_list (pv 0)) (pg_name (i := 3) scSet.nd rfl (Or.inl rfl))
        (pss_cons (ps_if (PW.pt (pw_or (pt_cmpR op_notIn_seq (pv 3) (pv 1) (by with_unfolding_all rfl)) (pw_or1 (pt_cmpR op_le (pv 3) (pv 2) (nomark _))))) (pss_one (ps_ret pe_bl)) pss_nil)
        (pss_one (ps_set (i := 2) scSet.nd rfl (Or.inl rfl) (pv 3)))))
      (pss_one (ps_ret pe_bl)))), ?_⟩
    refine ⟨_, rfl, r, vN row, rfl, .inl hR, _, _, rfl, rfl, _, rfl, ?_⟩
    rw [vN_len]
    refine ite2 (fun e1 => ?_) (fun e1 => ?_)
    · have e1 := of_decide_eq_true e1
      refine iteT ?_
      rw [decide_eq_false (show ¬ 2 ≤ row.length by omega)] at k
      exact k
    have e1 := ndec e1
    refine ⟨_, rfl, r, vN row, rfl, .inl hR, _, _, rfl, rfl, _, rfl, ?_⟩
    rw [vN_len]
    refine ite2 (fun e2 => ?_) (fun e2 => ?_)
    · have e2 := of_decide_eq_true e2
      rw [decide_eq_true (show 2 ≤ row.length by omega), decide_eq_false (show ¬ row.length ≤ 3 by omega)] at k
      exact k
    have e2 := ndec e2
    rw [decide_eq_true (show 2 ≤ row.length by omega), decide_eq_true (show row.length ≤ 3 by omega), Bool.true_and, Bool.true_and] at k
    refine ⟨_, rfl, r, rfl, ⟨_, hR⟩, for_list (K := K) (a := r) (xs := vN row) (fun i σ H' => ∃ (b : Nat) (v : Option V), σ = [some (.ref r), some (.ref a), some (.int (b : Int)), v] ∧ H' = H ∧ (row.all fl.contains && rs 0 row) = ((row.drop i).all fl.contains && rs b (row.drop i)))
      ⟨0, none, rfl, rfl, rfl⟩ (fun i σ H' _ ⟨_, _, _, e, _⟩ => by rw [e]; exact hR) ?_ ?_⟩
    · rintro i y σ H' hi ⟨b, v, rfl, rfl, hinv⟩
      obtain ⟨n, hn, rfl⟩ := vN_get hi
      rw [drop_cons hn] at hinv
      have hinv : (row.all fl.contains && rs 0 row) = ((fl.contains n && (row.drop (i + 1)).all fl.contains) && (decide (b < n) && rs n (row.drop (i + 1)))) := hinv
      refine ⟨_, rfl, _, rfl, a, vN fl, rfl, .inl hF, rfl, vN_flat fl, _, rfl, ?_⟩
      rw [if_pos rfl, vN_in]
      refine ite2 (fun e3 => ?_) (fun e3 => ?_)
      · have e3 : ¬ n ∈ fl := by simpa using e3
        refine iteT ?_
        have : fl.contains n = false := by
          cases q : fl.contains n with
          | false => rfl
          | true => exact absurd (List.contains_iff_mem.mp q) e3
        rw [hinv, this] at k
        have k : Q (.bl false) H' := by simpa using k
        exact k
      · have e3 : n ∈ fl := by simpa using e3
        have hc : fl.contains n = true := List.contains_iff_mem.mpr e3
        refine ⟨_, rfl, _, rfl, _, _, rfl, rfl, _, rfl, ?_⟩
        refine ite2 (fun e4 => ?_) (fun e4 => ?_)
        · have e4 := of_decide_eq_true e4
          rw [hinv, decide_eq_false (show ¬ b < n by omega)] at k
          have k : Q (.bl false) H' := by simpa using k
          exact k
        · have e4 := ndec e4
          refine ⟨_, rfl, ⟨n, _, rfl, rfl, ?_⟩⟩
          rw [hinv, hc, decide_eq_true (show b < n by omega), Bool.true_and, Bool.true_and]
    · rintro σ H' ⟨b, v, rfl, rfl, hinv⟩
      rw [vN_len, List.drop_length] at hinv
      rw [hinv] at k
      exact k
theorem small_line {n : Nat} (h : n ≤ 1000) : n ≤ sizeLine := Nat.le_trans h (by decide)
theorem ordP_snoc : ∀ (l : List Nat) (os : List (List Nat)) (x : Nat), Mir.ordP os (l ++ [x]) = (Mir.ordP os l).flatMap (Mir.insAll x)
  | [], os, x => rfl
  | y :: l, os, x => ordP_snoc l (os.flatMap (Mir.insAll y)) x
theorem ins_perm {x : Nat} {p q : List Nat} (h : q ∈ Mir.insAll x p) : q.Perm (x :: p) := by
  obtain ⟨i, _, rfl⟩ := List.mem_map.mp h
  have e : (p.take i ++ [x] ++ p.drop i).Perm ([x] ++ p.take i ++ p.drop i) := List.perm_append_comm.append_right _
  refine e.trans ?_
  show (x :: (p.take i ++ p.drop i)).Perm (x :: p)
  rw [List.take_append_drop]
theorem ordP_perm : ∀ (l : List Nat) (q : List Nat), q ∈ Mir.ordP [[]] l → q.Perm l := by
  intro l
  have gen : ∀ (l : List Nat) (os : List (List Nat)) (done : List Nat), (∀ p ∈ os, p.Perm done) → ∀ q ∈ Mir.ordP os l, q.Perm (done ++ l) := by
    intro l
    induction l with
    | nil =>
      intro os done h q hq
      rw [List.append_nil]
      exact h q hq
    | cons x l ih =>
      intro os done h q hq
      have := ih (os.flatMap (Mir.insAll x)) (done ++ [x]) (fun p hp => by
        obtain ⟨p0, h0, h1⟩ := List.mem_flatMap.mp hp
        refine (ins_perm h1).trans ?_
        exact ((h p0 h0).cons x).trans (List.perm_append_comm (l₁ := [x]) (l₂ := done))) q hq
      rw [List.append_assoc] at this
      exact this
  exact fun q hq => gen l [[]] [] (fun p hp => by rw [List.mem_singleton.mp hp]) q hq
theorem ordP_many : ∀ {l : List Nat}, l.length ≤ 3 → (Mir.ordP [[]] l).length ≤ 6
  | [], _ => by show 1 ≤ 6; decide
  | [a], _ => by show 1 ≤ 6; decide
  | [a, b], _ => by show 2 ≤ 6; decide
  | [a, b, c], _ => by show 6 ≤ 6; decide
  | a :: b :: c :: d :: l, h => by simp at h
theorem ins_len (x : Nat) (p : List Nat) : (Mir.insAll x p).length = p.length + 1 := by
  unfold Mir.insAll
  rw [List.length_map, List.length_range]
theorem flat_take {l : List (List Nat)} {i : Nat} {p : List Nat} (x : Nat) (h : l[i]? = some p) : (l.take (i + 1)).flatMap (Mir.insAll x) = (l.take i).flatMap (Mir.insAll x) ++ Mir.insAll x p := by
  rw [take_snoc h, List.flatMap_append]
  simp
theorem cut_lo (p : List Nat) (i : Nat) (h : i ≤ p.length) : cutV (vN p) none (some ((i : Nat) : Int)) = vN (p.take i) := by
  unfold cutV
  rw [HT.sIx_none, HT.sIx_nat, vN_len, Nat.min_eq_left h, List.drop_zero, Nat.sub_zero]
  unfold vN
  rw [List.map_take]
theorem cut_hi (p : List Nat) (i : Nat) (h : i ≤ p.length) : cutV (vN p) (some ((i : Nat) : Int)) none = vN (p.drop i) := by
  unfold cutV
  rw [HT.sIx_none, HT.sIx_nat, vN_len, Nat.min_eq_left h, List.take_of_length_le (by rw [List.length_drop, vN_len]; exact Nat.le_refl _)]
  unfold vN
  rw [List.map_drop]
theorem lists_nil (H : Hp) : Lists H [] [] := ⟨rfl, fun j a h => by simp at h⟩
def spOrders (K : PySem.W.Frag) : Sp := fun vs H Q _ => ∃ (r : Addr) (row : List Nat), vs = [.ref r] ∧ SqL K H r (vN row) ∧ row.length ≤ 3 ∧
  ∀ (p : Addr) (bs : List Addr) (H' : Hp), Same H H' → H' p = some (.lst (bs.map V.ref)) → Lists H' bs (Mir.ordP [[]] row) → Q (.ref p) H'
theorem scOrders : FnScope ["row", "orders", "interest", "longer", "placed", "at"] ["row"] (defScope s_orders_of) := ⟨rfl, rfl, rfl, by decide +kernel, rfl, by decide +kernel, by decide +kernel⟩
theorem ok_orders {f : Addr} {fd : FuncData} (F : Fun K "orders_of" "orders_of" s_orders_of f fd) (gl : mg "len" = none) (gr : mg "range" = none) : FnOk P w K mg base CX0 1 f fd ["row"] (spOrders K) := by
  refine F.ok scOrders (fun vs H Q E h => ?_) (fun cdv A outer s H vs Q E hr h => ?_)
  · obtain ⟨r, row, rfl, _⟩ := h
    rfl
  · obtain ⟨r, row, rfl, hR, hl, k⟩ := h
    refine ⟨_, pss_cons (ps_set (i := 1) scOrders.nd rfl (Or.inl rfl) (pe_lst (pa_cons (pe_lst pa_nil) pa_nil)))
      (pss_cons (ps_for PassesOwn.never rfl (pi_list (pv 0)) (pg_name (i := 2) scOrders.nd rfl (Or.inl rfl))
        (pss_cons (ps_set (i := 3) scOrders.nd rfl (Or.inl rfl) (pe_lst pa_nil))
        (pss_cons (ps_for PassesOwn.never rfl (pi_list (pv 1)) (pg_name (i := 4) scOrders.nd rfl (Or.inl rfl))
          (pss_one (ps_for PassesOwn.never rfl (pi_range1 rfl gr (pa_cons (pe_op op_add (pe_callB call_len_seq (by rfl) gl PySem.boot_len (pa_cons (pv 4) pa_nil)) pe_int) pa_nil)) (pg_name (i := 5) scOrders.nd rfl (Or.inl rfl))
            (pss_one (ps_expr (pe_bm PySem.F.plainAttrs_list PySem.F.slot_list_append PySem.F.type_list_append mt_append (pv 3) (pa_cons (pe_op op_cat (pe_op op_cat (pe_slice sl_list (pv 4) po_none (po_some (pv 5))) (pe_lst (pa_cons (pv 2) pa_nil))) (pe_slice sl_list (pv 4) (po_some (pv 5)) po_none)) pa_nil)))))))
        (pss_one (ps_set (i := 1) scOrders.nd rfl (Or.inl rfl) (pv 3))))))
      (pss_one (ps_ret (pv 1)))), ?_⟩
    refine ⟨Nat.zero_le _, fun e0 he0 => ⟨(by show 1 ≤ sizeLine; decide), fun o0 ho0 => ?_⟩⟩
    have ne0 : e0 ≠ o0 := by
      rintro rfl
      rw [upd_same] at ho0
      cases ho0
    have ho0' : H o0 = none := by
      rw [upd_ne ne0.symm] at ho0
      exact ho0
    have s0 : Same H (upd (upd H e0 (.lst [])) o0 (.lst [.ref e0])) := fun b o e => by
      rw [upd_ne (ne_of_none e ho0'), upd_ne (ne_of_none e he0)]
      exact e
    refine ⟨_, rfl, r, rfl, ⟨_, s0.seq hR⟩, for_list (K := K) (a := r) (xs := vN row) (fun i σ H' => ∃ (o : Addr) (bs : List Addr) (v2 v3 v4 v5 : Option V), σ = [some (.ref r), some (.ref o), v2, v3, v4, v5] ∧ Same H H' ∧ H' o = some (.lst (bs.map V.ref)) ∧ Lists H' bs (Mir.ordP [[]] (row.take i)))
      ⟨o0, [e0], none, none, none, none, rfl, s0, upd_same, ⟨rfl, fun j a hj => ?_⟩⟩ (fun i σ H' _ ⟨_, _, _, _, _, _, _, e, _⟩ => e.seq hR) ?_ ?_⟩
    · match j, hj with
      | 0, hj =>
        cases hj
        exact ⟨[], rfl, by rw [upd_ne ne0, upd_same]; rfl⟩
      | j + 1, hj => simp at hj
    · rintro i y σ H1 hi ⟨o, bs, v2, v3, v4, v5, rfl, s1, ho, hL⟩
      obtain ⟨x, hx, rfl⟩ := vN_get hi
      have hi2 : i < row.length := (List.getElem?_eq_some_iff.mp hx).1
      have htk : (row.take i).length = i := by rw [List.length_take]; omega
      have hmany := ordP_many (l := row.take i) (by omega)
      have hperm := ordP_perm (row.take i)
      have hsn : Mir.ordP [[]] (row.take (i + 1)) = (Mir.ordP [[]] (row.take i)).flatMap (Mir.insAll x) := by rw [take_snoc hx, ordP_snoc]
      generalize hos : Mir.ordP [[]] (row.take i) = os at hL hmany hperm hsn
      refine ⟨Nat.zero_le _, fun L hLn => ?_⟩
      have s2 : Same H1 (upd H1 L (.lst [])) := fun b o e => by rw [upd_ne (ne_of_none e hLn)]; exact e
      have hHL : H L = none := s1.free hLn
      have oL : o ≠ L := by
        rintro rfl
        rw [ho] at hLn
        cases hLn
      refine ⟨_, rfl, o, rfl, ⟨_, SqL.of (s2 _ _ ho)⟩, for_list (K := K) (a := o) (xs := bs.map V.ref) (fun j σ H' => ∃ (ls : List Addr) (v4 v5 : Option V), σ = [some (.ref r), some (.ref o), some (.int (x : Int)), some (.ref L), v4, v5] ∧ Same H1 H' ∧ H' L = some (.lst (ls.map V.ref)) ∧ Lists (Msk [L] H') ls ((os.take j).flatMap (Mir.insAll x)) ∧ ls.length ≤ 4 * j)
        ⟨[], v4, v5, rfl, s2, upd_same, lists_nil _, Nat.zero_le _⟩ (fun j σ H' _ ⟨_, _, _, _, e, _⟩ => SqL.of (e _ _ ho)) ?_ ?_⟩
      · rintro j z σ H2 hj ⟨ls, w4, w5, rfl, t1, t2, hLs, hlen⟩
        rw [List.getElem?_map] at hj
        cases eb : bs[j]? with
        | none => rw [eb] at hj; cases hj
        | some b =>
          rw [eb] at hj
          cases hj
          obtain ⟨p, hp, hb⟩ := hL.at_ j b eb
          have hj6 : j < 6 := by
            have := (List.getElem?_eq_some_iff.mp hp).1
            omega
          have hpl : p.length ≤ 3 := by
            have := (hperm p (List.mem_of_getElem? hp)).length_eq
            omega
          have bL : b ≠ L := by
            rintro rfl
            rw [hb] at hLn
            cases hLn
          refine ⟨_, rfl, b, vN p, rfl, .inl (SqL.of (t1 _ _ hb)), _, _, rfl, rfl, (p.length : Int) + 1, by rw [vN_len], by omega, by omega, ?_⟩
          have hto : ((p.length : Int) + 1).toNat = p.length + 1 := by omega
          rw [hto]
          refine for_range (lo := 0) (n := p.length + 1) (fun a σ H' => ∃ (ls' : List Addr) (v5 : Option V), σ = [some (.ref r), some (.ref o), some (.int (x : Int)), some (.ref L), some (.ref b), v5] ∧ Same H1 H' ∧ H' L = some (.lst (ls'.map V.ref)) ∧
              Lists (Msk [L] H') ls' ((os.take j).flatMap (Mir.insAll x) ++ (Mir.insAll x p).take a) ∧ ls'.length ≤ 4 * j + a)
            ⟨ls, w5, rfl, t1, t2, by rw [List.take_zero, List.append_nil]; exact hLs, by omega⟩ ?_ ?_
          · rintro a σ H3 ha ⟨ls', v5, rfl, u1, u2, hL3, hlen3⟩
            have ea : (0 : Int) + (a : Nat) = ((a : Nat) : Int) := by omega
            rw [ea]
            have hb3 := u1 _ _ hb
            refine ⟨_, rfl, .inl ⟨rfl, _, SqL.of u2⟩, _, rfl, _, rfl, _, rfl, b, _, rfl, SqL.of hb3, fun n1 h1 => ?_⟩
            rw [cut_lo p a (by omega)]
            refine ⟨_, rfl, (by show 1 ≤ sizeLine; decide), fun n2 h2 => ?_⟩
            have n21 : n2 ≠ n1 := by
              rintro rfl
              rw [upd_same] at h2
              cases h2
            have h2' : H3 n2 = none := by
              rw [upd_ne n21] at h2
              exact h2
            refine ⟨n1, n2, _, _, rfl, rfl, by rw [upd_ne n21.symm, upd_same], upd_same, ?_, fun n3 h3 => ?_⟩
            · rw [vN_len, List.length_take]
              exact small_line (by show min a p.length + 1 ≤ 1000; omega)
            have n32 : n3 ≠ n2 := by
              rintro rfl
              rw [upd_same] at h3
              cases h3
            have h3a := h3
            rw [upd_ne n32] at h3a
            have n31 : n3 ≠ n1 := by
              rintro rfl
              rw [upd_same] at h3a
              cases h3a
            have h3' : H3 n3 = none := by
              rw [upd_ne n31] at h3a
              exact h3a
            have sa : Same H3 (upd (upd (upd H3 n1 (.lst (vN (p.take a)))) n2 (.lst [V.int (x : Int)])) n3 (.lst (vN (p.take a) ++ [V.int (x : Int)]))) := fun c q e => by
              rw [upd_ne (ne_of_none e h3'), upd_ne (ne_of_none e h2'), upd_ne (ne_of_none e h1)]
              exact e
            have n3at : (upd (upd (upd H3 n1 (.lst (vN (p.take a)))) n2 (.lst [V.int (x : Int)])) n3 (.lst (vN (p.take a) ++ [V.int (x : Int)]))) n3 = some (.lst (vN (p.take a) ++ [V.int (x : Int)])) := upd_same
            generalize upd (upd (upd H3 n1 (.lst (vN (p.take a)))) n2 (.lst [V.int (x : Int)])) n3 (.lst (vN (p.take a) ++ [V.int (x : Int)])) = H4 at sa n3at
            refine ⟨_, rfl, _, rfl, _, rfl, b, _, rfl, SqL.of (sa _ _ hb3), fun n4 h4 => ?_⟩
            rw [cut_hi p a (by omega)]
            have n43 : n3 ≠ n4 := by
              rintro rfl
              rw [n3at] at h4
              cases h4
            refine ⟨n3, n4, _, _, rfl, rfl, by rw [upd_ne n43]; exact n3at, upd_same, ?_, fun n5 h5 => ?_⟩
            · rw [List.length_append, vN_len, vN_len, List.length_take, List.length_drop]
              exact small_line (by show min a p.length + 1 + (p.length - a) ≤ 1000; omega)
            have n54 : n5 ≠ n4 := by
              rintro rfl
              rw [upd_same] at h5
              cases h5
            have h5' : H4 n5 = none := by
              rw [upd_ne n54] at h5
              exact h5
            have sb : Same H3 (upd (upd H4 n4 (.lst (vN (p.drop a)))) n5 (.lst (vN (p.take a) ++ [V.int (x : Int)] ++ vN (p.drop a)))) := fun c q e => by
              have e1 := sa c q e
              rw [upd_ne (ne_of_none e1 h5'), upd_ne (ne_of_none e1 h4)]
              exact e1
            have n5at : (upd (upd H4 n4 (.lst (vN (p.drop a)))) n5 (.lst (vN (p.take a) ++ [V.int (x : Int)] ++ vN (p.drop a)))) n5 = some (.lst (vN (p.take a ++ [x] ++ p.drop a))) := by
              rw [upd_same]
              unfold vN
              rw [List.map_append, List.map_append]
              rfl
            have hn5 : H3 n5 = none := sa.free h5'
            generalize upd (upd H4 n4 (.lst (vN (p.drop a)))) n5 (.lst (vN (p.take a) ++ [V.int (x : Int)] ++ vN (p.drop a))) = H5 at sb n5at
            have n5L : ¬ n5 ∈ [L] := by
              intro z
              rw [List.mem_singleton.mp z, u2] at hn5
              cases hn5
            refine ⟨L, _, _, rfl, rfl, sb _ _ u2, ?_, ?_⟩
            · rw [List.length_map]
              exact small1000 (by omega)
            have em := msk_upd (S := [L]) (H := H5) (b := L) (o := .lst (ls'.map V.ref ++ [.ref n5])) (by simp)
            refine ⟨ls' ++ [n5], _, rfl, fun c q e => ?_, ?_, ?_, ?_⟩
            · rw [upd_ne (ne_of_none e hLn)]
              exact sb _ _ (u1 c q e)
            · rw [upd_same, List.map_append]
              rfl
            · rw [em]
              have et : (Mir.insAll x p).take (a + 1) = (Mir.insAll x p).take a ++ [p.take a ++ [x] ++ p.drop a] := range_take (fun i => p.take i ++ [x] ++ p.drop i) (p.length + 1) a ha
              rw [et, ← List.append_assoc]
              exact (hL3.same (msk_mono sb)).snoc ((msk_at n5L).trans n5at)
            · rw [List.length_append, List.length_singleton]
              omega
          · rintro σ H3 ⟨ls', v5, rfl, u1, u2, hL3, hlen3⟩
            have et : (Mir.insAll x p).take (p.length + 1) = Mir.insAll x p := List.take_of_length_le (by rw [ins_len]; exact Nat.le_refl _)
            rw [et, ← flat_take x hp] at hL3
            exact ⟨ls', _, _, rfl, u1, u2, hL3, by omega⟩
      · rintro σ H2 ⟨ls, w4, w5, rfl, t1, t2, hLs, hlen⟩
        rw [List.length_map, hL.len, List.take_length] at hLs
        refine ⟨_, rfl, ⟨L, ls, _, _, _, _, rfl, s1.trans t1, t2, ?_⟩⟩
        rw [hsn]
        exact hLs.same (msk_same _ _)
    · rintro σ H' ⟨o, bs, v2, v3, v4, v5, rfl, s1, ho, hL⟩
      rw [vN_len, List.take_length] at hL
      exact ⟨_, rfl, k o bs H' s1 ho hL⟩
theorem scSum : FnScope ["row", "cents_of", "total", "placed", "chance"] ["row", "cents_of"] (defScope s_chance_of_set) := ⟨rfl, rfl, rfl, by decide +kernel, rfl, by decide +kernel, by decide +kernel⟩
theorem pow_le {i : Nat} (h : i ≤ 6) : (2 : Nat) ^ (201 * i) < 2 ^ 4000 := Nat.pow_lt_pow_right (by decide) (by omega)
theorem ok_set {f fo fc fa fl fg : Addr} {fd fdo fdc fda fdl fdg : FuncData} (F : Fun K "chance_of_set" "chance_of_set" s_chance_of_set f fd) (FO : Fun K "orders_of" "orders_of" s_orders_of fo fdo) (mgO : mg "orders_of" = some (.ref fo)) (bO : Binds K fdo ["row"] [])
    (mgC : mg "chance_of_order" = some (.ref fc)) (kc : PySem.W.keepIn K (.ref fc) = true) (bC : Binds K fdc ["row", "cents_of"] []) (GC : FnOk P w K mg base CX0 3 fc fdc ["row", "cents_of"] (spChance K))
    (FA : Fun K "add_fractions" "add_fractions" s_add_fractions fa fda) (mgA : mg "add_fractions" = some (.ref fa)) (bA : Binds K fda ["over", "under", "other_over", "other_under"] [])
    (FL : Fun K "lowest_terms" "lowest_terms" s_lowest_terms fl fdl) (mgL : mg "lowest_terms" = some (.ref fl)) (bL : Binds K fdl ["over", "under"] [])
    (FG : Fun K "greatest_divisor" "greatest_divisor" s_greatest_divisor fg fdg) (mgG : mg "greatest_divisor" = some (.ref fg)) (bG : Binds K fdg ["one", "other"] []) (gl : mg "len" = none) (gr : mg "range" = none) :
    FnOk P w K mg base CX0 4 f fd ["row", "cents_of"] (spChG K Mir.rowAny Tote.chanceAny) := by
  have GO : FnOk P w K mg base CX0 1 fo fdo ["row"] (spOrders K) := ok_orders FO gl gr
  have GA : FnOk P w K mg base CX0 3 fa fda ["over", "under", "other_over", "other_under"] spAdd := ok_add FA FL mgL bL FG mgG bG
  refine F.ok scSum (fun vs H Q E h => ?_) (fun cdv A outer s H vs Q E hr h => ?_)
  · obtain ⟨r, d, row, f, c, rfl, _⟩ := h
    rfl
  · obtain ⟨r, d, row, f, c, rfl, hR, hD, hS, hrow, fo', k⟩ := h
    have hr1 := hr.mono (show 1 ≤ 3 by decide)
    refine ⟨_, pss_cons (ps_set (i := 2) scSum.nd rfl (Or.inl rfl) (pe_tup (pa_cons pe_int (pa_cons pe_int pa_nil))))
      (pss_cons (ps_for PassesOwn.never rfl (pi_list (pe_call GO hr1 rfl mgO FO.kp bO .nil pass0 (pa_cons (pv 0) pa_nil))) (pg_name (i := 3) scSum.nd rfl (Or.inl rfl))
        (pss_cons (ps_set (i := 4) scSum.nd rfl (Or.inl rfl) (pe_call GC hr rfl mgC kc bC .nil pass0 (pa_cons (pv 3) (pa_cons (pv 1) pa_nil))))
        (pss_one (ps_set (i := 2) scSum.nd rfl (Or.inl rfl) (pe_call GA hr rfl mgA FA.kp bA .nil pass0 (pa_cons (pe_ix ix_tup (pv 2) pe_int (fun _ _ => rfl)) (pa_cons (pe_ix ix_tup (pv 2) pe_int (fun _ _ => rfl)) (pa_cons (pe_ix ix_tup (pv 4) pe_int (fun _ _ => rfl)) (pa_cons (pe_ix ix_tup (pv 4) pe_int (fun _ _ => rfl)) pa_nil)))))))))
      (pss_one (ps_ret (pv 2)))), ?_⟩
    have hra : 2 ≤ row.length ∧ row.length ≤ 3 ∧ Tote.risesN row = true ∧ ∀ h ∈ row, h ∈ f := by
      unfold Mir.rowAny at hrow
      simp only [Bool.and_eq_true, decide_eq_true_eq] at hrow
      exact ⟨hrow.1, hrow.2.1, hrow.2.2.1, fun h hh => List.contains_iff_mem.mp (List.all_eq_true.mp hrow.2.2.2 h hh)⟩
    have hnd : row.Nodup := by
      match row, hra with
      | [a, b], hra =>
        have := Mir.rises2 hra.2.2.1
        simp only [List.nodup_cons, List.mem_singleton, List.not_mem_nil, not_false_iff, List.nodup_nil, and_true]
        omega
      | [a, b, e], hra =>
        have := Mir.rises3 hra.2.2.1
        simp only [List.nodup_cons, List.mem_cons, List.not_mem_nil, not_false_iff, List.nodup_nil, and_true, or_false]
        omega
      | [], hra => simp at hra
      | [_], hra => simp at hra
      | _ :: _ :: _ :: _ :: _, hra => have := hra.2.1; simp at this
    have hord : ∀ q ∈ Mir.ordP [[]] row, q.Nodup ∧ (∀ h ∈ q, h ∈ f) ∧ q.length ≤ 4 := fun q hq => by
      have hp := ordP_perm row q hq
      exact ⟨hp.nodup_iff.mpr hnd, fun h hh => hra.2.2.2 h (hp.mem_iff.mp hh), by rw [hp.length_eq]; omega⟩
    have hbd : ∀ q ∈ Mir.ordP [[]] row, 0 < (Mir.chM c 1 1 (f.map c).sum q).under ∧ (Mir.chM c 1 1 (f.map c).sum q).over ≤ 2 ^ 192 ∧ (Mir.chM c 1 1 (f.map c).sum q).under ≤ 2 ^ 192 := fun q hq => by
      obtain ⟨q1, q2, q3⟩ := hord q hq
      obtain ⟨b1, b2, b3⟩ := Mir.chM_bd c (M := 2 ^ 48) (by decide) q 1 1 (f.map c).sum (sum_sub c q1 q2) (by decide) (Nat.le_trans hS (by decide))
      have hpw : (2 ^ 48) ^ q.length ≤ 2 ^ 192 := by
        rw [← Nat.pow_mul]
        exact Nat.pow_le_pow_right (by decide) (by omega)
      rw [Nat.one_mul] at b2 b3
      exact ⟨b1, Nat.le_trans b2 hpw, Nat.le_trans b3 hpw⟩
    have hany : Mir.anyP c (f.map c).sum row = Tote.chanceAny c (f.map c).sum row := Mir.anyP_eq c _ row (by omega) hra.2.2.1 fun q hq => (hbd q hq).1
    rw [← hany] at k
    unfold Mir.anyP at k
    have hmany := ordP_many hra.2.1
    refine ⟨(by show 2 ≤ sizeLine; decide), fun t0 ht0 => ?_⟩
    have s0 : Same H (upd H t0 (.tup [.int 0, .int 1])) := fun b o e => by rw [upd_ne (ne_of_none e ht0)]; exact e
    refine ⟨_, rfl, r, row, rfl, s0.seq hR, hra.2.1, fun p bs H1 s1 hp hL => ?_⟩
    generalize Mir.ordP [[]] row = os at hord hbd hmany hL k
    refine ⟨p, rfl, ⟨_, SqL.of hp⟩, for_list (K := K) (a := p) (xs := bs.map V.ref) (fun i σ H' => ∃ (t : Addr) (v3 v4 : Option V) (z : Tote.Odds), σ = [some (.ref r), some (.ref d), some (.ref t), v3, v4] ∧ Same H1 H' ∧ H' t = some (.tup [.int (z.over : Int), .int (z.under : Int)]) ∧
        z = ((os.take i).map fun q => Mir.chM c 1 1 (f.map c).sum q).foldl Tote.Odds.plus ⟨0, 1⟩ ∧ 0 < z.under ∧ z.over ≤ 2 ^ (201 * i) ∧ z.under ≤ 2 ^ (201 * i) ∧ i ≤ 6)
      ⟨t0, none, none, ⟨0, 1⟩, rfl, Same.refl _, s1 _ _ upd_same, rfl, Nat.one_pos, Nat.zero_le _, by show 1 ≤ 2 ^ 0; decide, by decide⟩ (fun i σ H' _ ⟨_, _, _, _, _, e, _⟩ => SqL.of (e _ _ hp)) ?_ ?_⟩
    · rintro i x σ H2 hi ⟨t, v3, v4, z, rfl, t1, ht, hz, hzp, hzo, hzu, hi6⟩
      rw [List.getElem?_map] at hi
      cases eb : bs[i]? with
      | none => rw [eb] at hi; cases hi
      | some b =>
        rw [eb] at hi
        cases hi
        obtain ⟨q, hq, hb⟩ := hL.at_ i b eb
        have hqm := List.mem_of_getElem? hq
        have hi5 : i < 6 := by
          have := (List.getElem?_eq_some_iff.mp hq).1
          omega
        obtain ⟨q1, q2, q3⟩ := hord q hqm
        obtain ⟨b1, b2, b3⟩ := hbd q hqm
        have hD2 : H2 d = some (.dK (ctK f c)) := t1 _ _ (s1 _ _ (s0 _ _ hD))
        refine ⟨_, rfl, _, rfl, b, d, q, f, c, rfl, SqL.of (t1 _ _ hb), hD2, hS, q1, q2, q3, fun tc H3 s3 htc => ?_⟩
        generalize hxc : Mir.chM c 1 1 (f.map c).sum q = xc at b1 b2 b3 htc
        have ht3 := s3 _ _ ht
        refine ⟨_, rfl, t, _, _, _, rfl, rfl, SqT.of ht3, rfl, _, rfl, t, _, _, _, rfl, rfl, SqT.of ht3, rfl, _, rfl, tc, _, _, _, rfl, rfl, SqT.of htc, rfl, _, rfl, tc, _, _, _, rfl, rfl, SqT.of htc, rfl, ?_⟩
        have hbig : (2 : Nat) ^ 192 < 2 ^ 4000 := Nat.pow_lt_pow_right (by decide) (by decide)
        refine ⟨z.over, z.under, xc.over, xc.under, rfl, hzp, b1, Nat.lt_of_le_of_lt hzo (pow_le hi6), Nat.lt_of_le_of_lt hzu (pow_le hi6), Nat.lt_of_le_of_lt b2 hbig, Nat.lt_of_le_of_lt b3 hbig, fun tn htn => ?_⟩
        have e201 : (2 : Nat) ^ (201 * (i + 1)) = 2 ^ (201 * i) * 2 ^ 192 * 2 ^ 9 := by
          rw [← Nat.pow_add, ← Nat.pow_add]
          congr 1
        have m1 : z.over * xc.under ≤ 2 ^ (201 * i) * 2 ^ 192 := Nat.mul_le_mul hzo b3
        have m2 : xc.over * z.under ≤ 2 ^ (201 * i) * 2 ^ 192 := by
          rw [Nat.mul_comm]
          exact Nat.mul_le_mul hzu b2
        have m3 : z.under * xc.under ≤ 2 ^ (201 * i) * 2 ^ 192 := Nat.mul_le_mul hzu b3
        refine ⟨tn, _, _, Tote.Odds.plus z xc, rfl, fun b o e => ?_, upd_same, ?_, Mir.plus_pos hzp b1, ?_, ?_, by omega⟩
        · have := s3 _ _ (t1 b o e)
          rw [upd_ne (ne_of_none this htn)]
          exact this
        · rw [take_snoc hq, List.map_append, List.foldl_append, ← hz]
          show Tote.Odds.plus z xc = Tote.Odds.plus z (Mir.chM c 1 1 (f.map c).sum q)
          rw [hxc]
        · refine Nat.le_trans (Mir.low_over _ _) ?_
          rw [e201]
          generalize 2 ^ (201 * i) * 2 ^ 192 = B at m1 m2
          show z.over * xc.under + xc.over * z.under ≤ B * 512
          omega
        · refine Nat.le_trans (Mir.low_under (Nat.mul_pos hzp b1)) ?_
          rw [e201]
          generalize 2 ^ (201 * i) * 2 ^ 192 = B at m3
          show z.under * xc.under ≤ B * 512
          omega
    · rintro σ H2 ⟨t, v3, v4, z, rfl, t1, ht, hz, _⟩
      rw [List.length_map, hL.len, List.take_length] at hz
      subst hz
      exact ⟨_, rfl, k t H2 ((s0.trans s1).trans t1) ht⟩
end
end Od
set_option Elab.async false
set_option linter.all false
set_option maxRecDepth 100000
set_option maxHeartbeats 8000000
namespace Od
open PySem PySem.Spec PyProof.Rows L2
theorem nats_of {hi : Nat} {l : List Int} (h : l.all (PySem.W.Codec.inInt (Int.ofNat 0) (Int.ofNat hi)) = true) : l = (OddsNeutral.nats l).map fun (n : Nat) => (n : Int) := by
  unfold OddsNeutral.nats
  rw [List.map_map]
  refine (List.map_id l).symm.trans (List.map_congr_left fun x hx => ?_)
  have q := List.all_eq_true.mp h x hx
  unfold PySem.W.Codec.inInt at q
  simp only [Bool.and_eq_true, decide_eq_true_eq, Int.ofNat_eq_natCast] at q
  show x = ((x.toNat : Nat) : Int)
  omega
theorem vN_nats {hi : Nat} {l : List Int} (h : l.all (PySem.W.Codec.inInt (Int.ofNat 0) (Int.ofNat hi)) = true) : vN (OddsNeutral.nats l) = l.map V.int := by
  have e := nats_of h
  have : vN (OddsNeutral.nats l) = ((OddsNeutral.nats l).map fun (n : Nat) => (n : Int)).map V.int := by
    unfold vN
    rw [List.map_map]
    rfl
  rw [this, ← e]
theorem nats_len (l : List Int) : (OddsNeutral.nats l).length = l.length := List.length_map _
theorem pairs_nats : ∀ l : List Int, OddsNeutral.pairs l = pairsN (OddsNeutral.nats l)
  | [] => rfl
  | [_] => rfl
  | a :: b :: r => by
    show (a.toNat, b.toNat) :: OddsNeutral.pairs r = (a.toNat, b.toNat) :: pairsN (OddsNeutral.nats r)
    rw [pairs_nats r]
theorem len_of {lo hi : Nat} {α : Type} {l : List α} (h : PySem.W.Codec.inLen lo hi l = true) : l.length ≤ hi := (PySem.W.Codec.inNat_iff.mp h).2
def spTop (K : PySem.W.Frag) : Sp := fun vs H Q _ => ∃ (pool : Nat) (ca ma ra : Addr) (cs mny row : List Nat), vs = [.int (pool : Int), .ref ca, .ref ma, .ref ra] ∧
  SqL K H ca (vN cs) ∧ SqL K H ma (vN mny) ∧ SqL K H ra (vN row) ∧ cs.length ≤ 66000 ∧ mny.length ≤ 16000 ∧ mny.length % 2 = 0 ∧ row.length ≤ 100 ∧
  ∀ (H' : Hp) (p : Addr), H' p = some (.lst ((Mir.firsts (Mir.rowAny row) (fun f => Tote.chanceAny (Mir.wM f (pairsN mny)) (Mir.totM (pairsN mny)) row) pool cs (pairsN mny)).map V.int)) → Q (.ref p) H'
theorem scTop : FnScope ["pool", "card", "money", "row"] ["pool", "card", "money", "row"] (defScope s_any_of) := ⟨rfl, rfl, rfl, by decide +kernel, rfl, by decide +kernel, by decide +kernel⟩
theorem all_mk {P : Program} {w : World} {K : PySem.W.Frag} {h : Heap} {mg : Str → Option Value} {fa : Addr} (X : K.In h) (G : h.Ns mainGlobals mg) (hfa : mg "any_of" = some (.ref fa)) (T : TextK w K mg)
    (D1 : DefK K mg "any_of" s_any_of) (D2 : DefK K mg "is_set" s_is_set) (D5 : DefK K mg "chance_of_set" s_chance_of_set) (D6 : DefK K mg "orders_of" s_orders_of) (D7 : DefK K mg "add_fractions" s_add_fractions) (g2 : GV mg "SMALLEST_SET" (.int 2)) (g3 : GV mg "LARGEST_SET" (.int 3)) :
    ∃ fd : FuncData, (∀ (s : Shared) (us : List Value), us.length = (["pool", "card", "money", "row"] : List Str).length → BindsTo s fd ⟨us, []⟩ ((["pool", "card", "money", "row"] : List Str).zip us)) ∧ ∀ base : Heap, K.In base → base.Ns mainGlobals mg → FnOk P w K mg base CX0 6 fa fd ["pool", "card", "money", "row"] (spTop K) := by
  obtain ⟨f1, fd1, m1, F1⟩ := D1
  obtain ⟨f2, fd2, m2, F2⟩ := D2
  obtain ⟨f3, fd3, m3, F3⟩ := T.d_answer_chance
  obtain ⟨f5, fd5, m5, F5⟩ := D5
  obtain ⟨f6, fd6, m6, F6⟩ := D6
  obtain ⟨f7, fd7, m7, F7⟩ := D7
  obtain ⟨f8, fd8, m8, F8⟩ := T.d_lowest_terms
  obtain ⟨f9, fd9, m9, F9⟩ := T.d_greatest_divisor
  obtain ⟨C, C0, TP, Z, AK⟩ := T.asks (P := P)
  have e := hfa.symm.trans m1
  cases e
  refine ⟨fd1, ?_, fun base _ _ => ?_⟩
  · obtain ⟨oc, od, kV, doc, pm, an, cdv, ct, osl, rfl, lk, hcd⟩ := F1.ex
    exact fun s us hu => match us, hu with | [_, _, _, _], _ => .of_eq rfl
  · obtain ⟨f4, fd4, m4, k4, b4, G4⟩ := T.chance (P := P) (base := base)
    have b2 := F2.binds (ps := ["row", "interests"]) fun _ _ _ _ _ _ us hl => match us, hl with | [_, _], _ => rfl
    have b3 := F3.binds (ps := ["pool", "card", "money", "row", "is_row_right", "chance_of"]) fun _ _ _ _ _ _ us hl => match us, hl with | [_, _, _, _, _, _], _ => rfl
    have b5 := F5.binds (ps := ["row", "cents_of"]) fun _ _ _ _ _ _ us hl => match us, hl with | [_, _], _ => rfl
    have b6 := F6.binds (ps := ["row"]) fun _ _ _ _ _ _ us hl => match us, hl with | [_], _ => rfl
    have b7 := F7.binds (ps := ["over", "under", "other_over", "other_under"]) fun _ _ _ _ _ _ us hl => match us, hl with | [_, _, _, _], _ => rfl
    have b8 := F8.binds (ps := ["over", "under"]) fun _ _ _ _ _ _ us hl => match us, hl with | [_, _], _ => rfl
    have b9 := F9.binds (ps := ["one", "other"]) fun _ _ _ _ _ _ us hl => match us, hl with | [_, _], _ => rfl
    have Gr : FnOk P w K mg base CX0 1 f2 fd2 ["row", "interests"] (spRowG K Mir.rowAny) := ok_isset F2 g2 g3 T.len
    have Gc : FnOk P w K mg base CX0 4 f5 fd5 ["row", "cents_of"] (spChG K Mir.rowAny Tote.chanceAny) := ok_set F5 F6 m6 b6 m4 k4 b4 G4 F7 m7 b7 F8 m8 b8 F9 m9 b9 T.len T.range
    have GA : FnOk P w K mg base CX0 5 f3 fd3 ["pool", "card", "money", "row", "is_row_right", "chance_of"] (spAns K f2 f5 Mir.rowAny Tote.chanceAny) :=
      ok_ans (pr := ("row", "interests")) (pc := ("row", "cents_of")) F3 TP (AK base) F2.kp b2 Gr F5.kp b5 Gc Z T.len T.longest T.c2 T.c8 T.c4 T.c5 T.c1 T.c3
    have gO : GV mg "is_set" (.ref f2) := ⟨_, m2, rfl⟩
    have gC : GV mg "chance_of_set" (.ref f5) := ⟨_, m5, rfl⟩
    refine F1.ok scTop (fun vs H Q E q => ?_) (fun cdv A outer s H vs Q E hr q => ?_)
    · obtain ⟨pool, ca, ma, ra, cs, mny, row, rfl, _⟩ := q
      rfl
    · obtain ⟨pool, ca, ma, ra, cs, mny, row, rfl, h1, h2, h3, h4, h5, h6, h7, k⟩ := q
      refine ⟨_, pss_one (ps_ret (pe_call GA hr rfl m3 F3.kp b3 .nil pass0 (pa_cons (pv 0) (pa_cons (pv 1) (pa_cons (pv 2) (pa_cons (pv 3) (pa_cons (pe_gl gO) (pa_cons (pe_gl gC) pa_nil)))))))), ?_⟩
      exact ⟨_, rfl, _, rfl, _, rfl, _, rfl, pool, ca, ma, ra, cs, mny, row, rfl, h1, h2, h3, h4, h5, h6, h7, k⟩
theorem top_due {K : PySem.W.Frag} {H : Hp} {Q : VK} {E : XK} (pool : Int) (card money row : List Int) (a1 a2 a3 : Addr) (q1 : PySem.W.Codec.inInt (Int.ofNat 0) (Int.ofNat 4294967295) pool = true) (q2 : PySem.W.Codec.inLen 0 66000 card = true) (q3 : card.all (PySem.W.Codec.inInt (Int.ofNat 0) (Int.ofNat 255)) = true)
    (q4 : PySem.W.Codec.inLen 0 16000 money = true) (q5 : money.all (PySem.W.Codec.inInt (Int.ofNat 0) (Int.ofNat 18446744073709551615)) = true) (q6 : PySem.W.Codec.inLen 0 100 row = true) (q7 : row.all (PySem.W.Codec.inInt (Int.ofNat 0) (Int.ofNat 4294967295)) = true)
    (hask : PyWqaqcp.any_of_asked pool card money row = true) (s2 : SqL K H a1 (card.map V.int)) (s3 : SqL K H a2 (money.map V.int)) (s4 : SqL K H a3 (row.map V.int))
    (k : ∀ (H' : Hp) (p : Addr), H' p = some (.lst ((PyWqaqcp.any_of pool card money row).map V.int)) → Q (.ref p) H') : spTop K [.int pool, .ref a1, .ref a2, .ref a3] H Q E := by
  have hp : pool = ((pool.toNat : Nat) : Int) := by
    unfold PySem.W.Codec.inInt at q1
    simp only [Bool.and_eq_true, decide_eq_true_eq, Int.ofNat_eq_natCast] at q1
    omega
  have hc : ∀ x ∈ card, 0 ≤ x ∧ x ≤ 255 := fun x hx => by
    have q := List.all_eq_true.mp q3 x hx
    unfold PySem.W.Codec.inInt at q
    simp only [Bool.and_eq_true, decide_eq_true_eq, Int.ofNat_eq_natCast] at q
    exact ⟨by omega, by omega⟩
  have hev : money.length % 2 = 0 := by
    have q : OddsNeutral.asked [[2, pool], card, money, row] = true := hask
    unfold OddsNeutral.asked at q
    simp only [Bool.and_eq_true] at q
    have q := q.2.2.1
    have q := List.all_eq_true.mp q (money, 2) (by simp [List.zipIdx])
    have e : (OddsNeutral.pairRows ((OddsNeutral.nats (([[2, pool], card, money, row] : List (List Int)).headD [])).headD 0)).contains 2 = true := rfl
    simp only [e, Bool.not_true, Bool.false_or, beq_iff_eq] at q
    exact q
  have due := Mir.any_due pool card money row (len_of q4) hc
  refine ⟨pool.toNat, a1, a2, a3, OddsNeutral.nats card, OddsNeutral.nats money, OddsNeutral.nats row, ?_, ?_, ?_, ?_, ?_, ?_, ?_, ?_, fun H' p hp' => ?_⟩
  · rw [← hp]
  · rw [vN_nats q3]; exact s2
  · rw [vN_nats q5]; exact s3
  · rw [vN_nats q7]; exact s4
  · rw [nats_len]; exact len_of q2
  · rw [nats_len]; exact len_of q4
  · rw [nats_len]; exact hev
  · rw [nats_len]; exact len_of q6
  · refine k H' p ?_
    rw [due, pairs_nats]
    exact hp'
end Od
open PySem PySem.W PyProof.Rows
set_option maxRecDepth 100000 in
set_option maxHeartbeats 0 in
theorem PySem.Challenge.cw_chancehalldesk_s02_any_of_holds : PySem.Challenge.rw_chancehalldesk_s02_any_of.Holds := by
  w_on; k_headS; (case hw => exact ⟨[.int 0, .list [], .list [], .list []], by decide +kernel, by decide +kernel⟩)
  k_fillS
  refine L2.walk_specK (r := PySem.Challenge.rw_chancehalldesk_s02_any_of) (k := 6) (CX := L2.CX0) (ps := ["pool", "card", "money", "row"]) (sp := Od.spTop) (by decide +kernel) rfl rfl ⟨rfl, by decide, by decide⟩ (fun w h Y => PySem.W.kIn_of Y) ?F ?S (fun _ _ _ _ z => z)
  case F =>
    intro w mg fa h Y KX G hmg
    refine' Od.all_mk KX G hmg ⟨?texn, ?tpool, ?tlen, ?tint, ?trange, ?tord, ?tsum, ?tletters, ?tsigns, ?tname12, ?tnum5, ?traces, ?tpools, ?trunners, ?tcouples, ?ttake, ?tbrk, ?tunit, ?twords, ?tpairs, ?tcents, ?tc2, ?tc8, ?tc4, ?tc5, ?tc1, ?tc3, ?tlongest, ?tfixed, ?tsizes, ?tways, ?td_read_card, ?td_lines_of, ?td_text_of, ?td_check_day, ?td_check_name, ?td_check_names_differ, ?td_read_number, ?td_read_race, ?td_read_pool, ?td_check_fixed_words, ?td_check_terms, ?td_check_none, ?td_fields_of, ?td_greatest_divisor, ?td_lowest_terms, ?td_chance_of_order, ?td_product, ?td_count_combinations, ?td_is_money_right, ?td_cents_of_interests, ?td_answer_chance, ?td_is_on_firsts⟩ ?x_any_of ?x_is_set ?x_chance_of_set ?x_orders_of ?x_add_fractions ?xi_SMALLEST_SET ?xi_LARGEST_SET
    (case texn => refine' Od.exn_mk KX G ?e0 ?e1 ?e2; (case e0 => k_is); (case e1 => k_exc); (case e2 => kts_exm))
    (case tpool => refine' Od.pool_mk KX G ?pa ?pi ?pfn ?pl ?pc ?pk ?ppg ?phd ?ppo ?psa ?pmk ?pkc ?pn1 ?pn2 ?pn3 ?pn4; (case pa => k_is); (case pi => k_is); (case pfn => k_is); (case pl => k_is); (case pc => k_is); (case pk => k_is); (case ppg => k_is); (case phd => k_is); (case ppo => k_is); (case psa => k_is); (case pmk => k_is); (case pkc => k_is); (case pn1 => k_is); (case pn2 => k_is); (case pn3 => k_is); (case pn4 => k_is))
    (case tlen => refine' PySem.W.mg_none_of KX G ?z; (case z => k_is))
    (case tint => refine' PySem.W.mg_none_of KX G ?z; (case z => k_is))
    (case trange => refine' PySem.W.mg_none_of KX G ?z; (case z => k_is))
    (case tord => refine' PySem.W.mg_none_of KX G ?z; (case z => k_is))
    (case tsum => refine' PySem.W.mg_none_of KX G ?z; (case z => k_is))
    (case tletters => refine' Od.gv_str KX G ?z; (case z => k_is))
    (case tsigns => refine' Od.gv_str KX G ?z; (case z => k_is))
    (case tname12 => refine' Od.gv_int KX G ?z; (case z => k_is))
    (case tnum5 => refine' Od.gv_int KX G ?z; (case z => k_is))
    (case traces => refine' Od.gv_int KX G ?z; (case z => k_is))
    (case tpools => refine' Od.gv_int KX G ?z; (case z => k_is))
    (case trunners => refine' Od.gv_int KX G ?z; (case z => k_is))
    (case tcouples => refine' Od.gv_int KX G ?z; (case z => k_is))
    (case ttake => refine' Od.gv_int KX G ?z; (case z => k_is))
    (case tbrk => refine' Od.gv_int KX G ?z; (case z => k_is))
    (case tunit => refine' Od.gv_int KX G ?z; (case z => k_is))
    (case twords => refine' Od.gv_int KX G ?z; (case z => k_is))
    (case tpairs => refine' Od.gv_int KX G ?z; (case z => k_is))
    (case tcents => refine' Od.gv_int KX G ?z; (case z => k_is))
    (case tc2 => refine' Od.gv_int KX G ?z; (case z => k_is))
    (case tc8 => refine' Od.gv_int KX G ?z; (case z => k_is))
    (case tc4 => refine' Od.gv_int KX G ?z; (case z => k_is))
    (case tc5 => refine' Od.gv_int KX G ?z; (case z => k_is))
    (case tc1 => refine' Od.gv_int KX G ?z; (case z => k_is))
    (case tc3 => refine' Od.gv_int KX G ?z; (case z => k_is))
    (case tlongest => refine' Od.gv_int KX G ?z; (case z => k_is))
    (case tfixed => refine' Od.fix_mk KX G ?fe ?fl ?fe0 ?fe1 ?fe2 ?fe3 ?fe4 ?fe5 ?fe6; (case fe => k_is); (case fl => k_is); (case fe0 => k_is); (case fe1 => k_is); (case fe2 => k_is); (case fe3 => k_is); (case fe4 => k_is); (case fe5 => k_is); (case fe6 => k_is))
    (case tsizes => refine' Od.siz_mk KX G ?se ?sl ?skl ?shs ?se1 ?se2 ?se3 ?se4; (case se => k_is); (case sl => k_is); (case skl => exact ⟨⟨_, _, rfl, rfl⟩, ⟨_, _, rfl, rfl⟩, ⟨_, _, rfl, rfl⟩, ⟨_, _, rfl, rfl⟩, trivial⟩); (case shs => decide); (case se1 => k_is); (case se2 => k_is); (case se3 => k_is); (case se4 => k_is))
    (case tways => refine' Od.tup_mk KX G ?we ?wl; (case we => k_is); (case wl => k_is))
    (case td_read_card => refine' Od.def_mk KX G ?da ?dl ?dc ?dk; (case da => k_is); (case dl => k_is); (case dc => k_is); (case dk => k_is))
    (case td_lines_of => refine' Od.def_mk KX G ?da ?dl ?dc ?dk; (case da => k_is); (case dl => k_is); (case dc => k_is); (case dk => k_is))
    (case td_text_of => refine' Od.def_mk KX G ?da ?dl ?dc ?dk; (case da => k_is); (case dl => k_is); (case dc => k_is); (case dk => k_is))
    (case td_check_day => refine' Od.def_mk KX G ?da ?dl ?dc ?dk; (case da => k_is); (case dl => k_is); (case dc => k_is); (case dk => k_is))
    (case td_check_name => refine' Od.def_mk KX G ?da ?dl ?dc ?dk; (case da => k_is); (case dl => k_is); (case dc => k_is); (case dk => k_is))
    (case td_check_names_differ => refine' Od.def_mk KX G ?da ?dl ?dc ?dk; (case da => k_is); (case dl => k_is); (case dc => k_is); (case dk => k_is))
    (case td_read_number => refine' Od.def_mk KX G ?da ?dl ?dc ?dk; (case da => k_is); (case dl => k_is); (case dc => k_is); (case dk => k_is))
    (case td_read_race => refine' Od.def_mk KX G ?da ?dl ?dc ?dk; (case da => k_is); (case dl => k_is); (case dc => k_is); (case dk => k_is))
    (case td_read_pool => refine' Od.def_mk KX G ?da ?dl ?dc ?dk; (case da => k_is); (case dl => k_is); (case dc => k_is); (case dk => k_is))
    (case td_check_fixed_words => refine' Od.def_mk KX G ?da ?dl ?dc ?dk; (case da => k_is); (case dl => k_is); (case dc => k_is); (case dk => k_is))
    (case td_check_terms => refine' Od.def_mk KX G ?da ?dl ?dc ?dk; (case da => k_is); (case dl => k_is); (case dc => k_is); (case dk => k_is))
    (case td_check_none => refine' Od.def_mk KX G ?da ?dl ?dc ?dk; (case da => k_is); (case dl => k_is); (case dc => k_is); (case dk => k_is))
    (case td_fields_of => refine' Od.def_mk KX G ?da ?dl ?dc ?dk; (case da => k_is); (case dl => k_is); (case dc => k_is); (case dk => k_is))
    (case td_greatest_divisor => refine' Od.def_mk KX G ?da ?dl ?dc ?dk; (case da => k_is); (case dl => k_is); (case dc => k_is); (case dk => k_is))
    (case td_lowest_terms => refine' Od.def_mk KX G ?da ?dl ?dc ?dk; (case da => k_is); (case dl => k_is); (case dc => k_is); (case dk => k_is))
    (case td_chance_of_order => refine' Od.def_mk KX G ?da ?dl ?dc ?dk; (case da => k_is); (case dl => k_is); (case dc => k_is); (case dk => k_is))
    (case td_product => refine' Od.def_mk KX G ?da ?dl ?dc ?dk; (case da => k_is); (case dl => k_is); (case dc => k_is); (case dk => k_is))
    (case td_count_combinations => refine' Od.def_mk KX G ?da ?dl ?dc ?dk; (case da => k_is); (case dl => k_is); (case dc => k_is); (case dk => k_is))
    (case td_is_money_right => refine' Od.def_mk KX G ?da ?dl ?dc ?dk; (case da => k_is); (case dl => k_is); (case dc => k_is); (case dk => k_is))
    (case td_cents_of_interests => refine' Od.def_mk KX G ?da ?dl ?dc ?dk; (case da => k_is); (case dl => k_is); (case dc => k_is); (case dk => k_is))
    (case td_answer_chance => refine' Od.def_mk KX G ?da ?dl ?dc ?dk; (case da => k_is); (case dl => k_is); (case dc => k_is); (case dk => k_is))
    (case td_is_on_firsts => refine' Od.def_mk KX G ?da ?dl ?dc ?dk; (case da => k_is); (case dl => k_is); (case dc => k_is); (case dk => k_is))
    (case x_any_of => refine' Od.def_mk KX G ?da ?dl ?dc ?dk; (case da => k_is); (case dl => k_is); (case dc => k_is); (case dk => k_is))
    (case x_is_set => refine' Od.def_mk KX G ?da ?dl ?dc ?dk; (case da => k_is); (case dl => k_is); (case dc => k_is); (case dk => k_is))
    (case x_chance_of_set => refine' Od.def_mk KX G ?da ?dl ?dc ?dk; (case da => k_is); (case dl => k_is); (case dc => k_is); (case dk => k_is))
    (case x_orders_of => refine' Od.def_mk KX G ?da ?dl ?dc ?dk; (case da => k_is); (case dl => k_is); (case dc => k_is); (case dk => k_is))
    (case x_add_fractions => refine' Od.def_mk KX G ?da ?dl ?dc ?dk; (case da => k_is); (case dl => k_is); (case dc => k_is); (case dk => k_is))
    (case xi_SMALLEST_SET => refine' Od.gv_int KX G ?z; (case z => k_is))
    (case xi_LARGEST_SET => refine' Od.gv_int KX G ?z; (case z => k_is))
  case S =>
    intro K H xs a hO hwi hask hx
    obtain ⟨pool, card, money, row, u⟩ := a
    have q : (Codec.inInt _ _ pool && ((Codec.inLen _ _ card && card.all (Codec.inInt _ _)) && ((Codec.inLen _ _ money && money.all (Codec.inInt _ _)) && ((Codec.inLen _ _ row && row.all (Codec.inInt _ _)) && true)))) = true := hwi
    simp only [Bool.and_eq_true] at q
    obtain ⟨q1, ⟨q2, q3⟩, ⟨q4, q5⟩, ⟨q6, q7⟩, _⟩ := q
    cases hx with
    | cons x1 r1 =>
      cases r1 with
      | cons x2 r2 =>
        cases r2 with
        | cons x3 r3 =>
          cases r3 with
          | cons x4 r4 =>
            cases r4
            cases x1
            cases x2 with
            | lst hs2 ha2 =>
              cases x3 with
              | lst hs3 ha3 =>
                cases x4 with
                | lst hs4 ha4 =>
                  have e2 := L2.ints_dw card _ ha2
                  have e3 := L2.ints_dw money _ ha3
                  have e4 := L2.ints_dw row _ ha4
                  subst e2 e3 e4
                  exact Od.top_due pool card money row _ _ _ q1 q2 q3 q4 q5 q6 q7 hask hs2 hs3 hs4 fun H' p hp => .lst (L2.SqL.of hp) (L2.dw_ints _)
#print axioms PySem.Challenge.cw_chancehalldesk_s02_any_of_holds
