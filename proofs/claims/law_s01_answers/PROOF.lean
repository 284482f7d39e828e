import PyProof.Rows.All
import Wide.All
import OpenK.AllK
import Wide.FinOn
import PyProof.EqAt
import PyProof.EqKinds
import PyProof.TupleCall
import KE.BitLaws
import Open.SpecLaws
import KE.OsHead
import KE.OsGo
import KE.IntBitsLaws
import KE.KDictSum
import PySem.Challenge.RW_piecetook_s01_answers
section
set_option Elab.async false
set_option linter.all false
set_option maxRecDepth 100000
namespace L2
open PySem PySem.Spec PyProof.Rows
abbrev Key := Sum Int Str
def keyIs : Key → Value → Bool
  | .inl k, v => Value.isInt k v
  | .inr x, v => Value.isStrOf x v
def keyH (w : World) : Key → Int
  | .inl k => hashInt k
  | .inr x => hashStr w x
theorem keyIs_shape : ∀ {k : Key} {v : Value}, keyIs k v = true → (∃ i t, k = Sum.inl i ∧ v = Value.int i t) ∨ (∃ x t, k = Sum.inr x ∧ v = Value.str x t)
  | .inl i, v, h => by
    obtain ⟨t, e⟩ := Value.isInt_shape (k := i) (v := v) h
    exact .inl ⟨i, t, rfl, e⟩
  | .inr x, v, h => by
    obtain ⟨t, e⟩ := Value.isStrOf_shape (x := x) (v := v) h
    exact .inr ⟨x, t, rfl, e⟩
theorem keyIs_int (i : Int) (t : Tok) : keyIs (.inl i) (.int i t) = true := by simp [keyIs, Value.isInt]
theorem keyIs_str (x : Str) (t : Tok) : keyIs (.inr x) (.str x t) = true := by simp [keyIs, Value.isStrOf]
theorem key_ll (a b : Int) : decide ((Sum.inl a : Key) = Sum.inl b) = (a == b) := by
  by_cases e : a = b
  · subst e; simp
  · have h : ¬ (Sum.inl a : Key) = Sum.inl b := fun q => e (Sum.inl.inj q)
    rw [decide_eq_false h]
    exact (beq_eq_false_iff_ne.mpr e).symm
theorem key_rr (a b : Str) : decide ((Sum.inr a : Key) = Sum.inr b) = decide (a = b) := by
  by_cases e : a = b
  · subst e; simp
  · have h : ¬ (Sum.inr a : Key) = Sum.inr b := fun q => e (Sum.inr.inj q)
    rw [decide_eq_false h, decide_eq_false e]
theorem key_lr (a : Int) (b : Str) : decide ((Sum.inl a : Key) = Sum.inr b) = false := decide_eq_false (fun q => nomatch q)
theorem key_rl (a : Str) (b : Int) : decide ((Sum.inr a : Key) = Sum.inl b) = false := decide_eq_false (fun q => nomatch q)
def mixKind (prog : Program) (w : World) : PySem.KeyKind prog w Key where
  is := keyIs
  hash := keyH w
  inj := fun v a b ha hb => by
    rcases keyIs_shape ha with ⟨i, t, rfl, rfl⟩ | ⟨x, t, rfl, rfl⟩
    · rcases keyIs_shape hb with ⟨j, u, rfl, e⟩ | ⟨y, u, rfl, e⟩
      · injection e with e1 _; rw [e1]
      · exact nomatch e
    · rcases keyIs_shape hb with ⟨j, u, rfl, e⟩ | ⟨y, u, rfl, e⟩
      · exact nomatch e
      · injection e with e1 _; rw [e1]
  byValue := fun k v h => by
    rcases keyIs_shape h with ⟨i, t, rfl, rfl⟩ | ⟨x, t, rfl, rfl⟩ <;> rfl
  pyHash := fun hv h => by
    rcases keyIs_shape hv with ⟨i, t, rfl, rfl⟩ | ⟨x, t, rfl, rfl⟩
    · exact wpAny_pyHash_int h
    · exact wpAny_pyHash_str h
  eqBool := fun hu hv h => by
    rcases keyIs_shape hu with ⟨i, t, rfl, rfl⟩ | ⟨x, t, rfl, rfl⟩
    · rcases keyIs_shape hv with ⟨j, u, rfl, rfl⟩ | ⟨y, u, rfl, rfl⟩
      · rw [key_ll] at h; exact wpAny_eqBool_int h
      · rw [key_lr] at h; exact SeqAt.EqAt.int_str i t y u _ _ _ _ h
    · rcases keyIs_shape hv with ⟨j, u, rfl, rfl⟩ | ⟨y, u, rfl, rfl⟩
      · rw [key_rl] at h; exact SeqAt.EqAt.str_int x t j u _ _ _ _ h
      · rw [key_rr] at h; exact wpAny_eqBool_str h
  «strs» := fun k x t v h => by
    rcases keyIs_shape h with ⟨i, u, rfl, e⟩ | ⟨y, u, rfl, e⟩
    · exact nomatch e
    · injection e with e1 _
      subst e1
      cases v <;> rfl
theorem mixKind_int (prog : Program) (w : World) (i : Int) (t : Tok) : (mixKind prog w).is (.inl i) (.int i t) = true := keyIs_int i t
theorem mixKind_str (prog : Program) (w : World) (x : Str) (t : Tok) : (mixKind prog w).is (.inr x) (.str x t) = true := keyIs_str x t
end L2
namespace L2
open PySem PySem.Spec PyProof.Rows
inductive V where
  | non | bl (b : Bool) | int (i : Int) | str (x : Str) | byt (b : Array UInt8) | flt (b : UInt64) | ref (a : Addr) | ty (n : String)
  deriving DecidableEq
def RelV : V → Value → Prop
  | .non, u => u = Value.none
  | .bl b, u => u = Value.bool b
  | .int i, u => ∃ t, u = Value.int i t
  | .str x, u => ∃ t, u = Value.str x t
  | .byt b, u => ∃ t, u = Value.bytes b t
  | .flt b, u => ∃ t, u = Value.float b t
  | .ref a, u => u = Value.ref a
  | .ty n, u => u = Value.type n
abbrev Vals : List V → List Value → Prop := Paired RelV
theorem Vals.length {xs : List V} {us : List Value} (r : Vals xs us) : xs.length = us.length := Paired.length r
theorem Vals.get : ∀ {xs : List V} {us : List Value} {i : Nat} {x : V}, Vals xs us → xs[i]? = some x → ∃ u, us[i]? = some u ∧ RelV x u
  | _, _, _, _, .nil, e => by simp at e
  | _, _, 0, _, .cons r _, e => by simp at e; subst e; exact ⟨_, rfl, r⟩
  | _, _, i + 1, x, .cons _ t, e => by
    obtain ⟨u, h1, h2⟩ := Vals.get (i := i) (x := x) t (by simpa using e)
    exact ⟨u, by simpa using h1, h2⟩
theorem Vals.append : ∀ {xs ys : List V} {us ws : List Value}, Vals xs us → Vals ys ws → Vals (xs ++ ys) (us ++ ws)
  | _, _, _, _, .nil, s => s
  | _, _, _, _, .cons r t, s => .cons r (Vals.append t s)
theorem Vals.take : ∀ {xs : List V} {us : List Value} (n : Nat), Vals xs us → Vals (xs.take n) (us.take n)
  | _, _, 0, _ => .nil
  | _, _, _ + 1, .nil => .nil
  | _, _, n + 1, .cons r t => .cons r (Vals.take n t)
theorem Vals.drop : ∀ {xs : List V} {us : List Value} (n : Nat), Vals xs us → Vals (xs.drop n) (us.drop n)
  | _, _, 0, r => r
  | _, _, _ + 1, .nil => .nil
  | _, _, n + 1, .cons _ t => Vals.drop n t
def RelO : Option V → Option Value → Prop
  | some v, some u => RelV v u
  | none, none => True
  | _, _ => False
def KV {κ : Type} : List (κ × V) → List (κ × Value) → Prop := Paired fun (p : κ × V) (q : κ × Value) => p.1 = q.1 ∧ RelV p.2 q.2
def kV : Key → V
  | .inl i => .int i
  | .inr x => .str x
inductive HO where
  /-- a list -/
  | lst (xs : List V)
  /-- a tuple (never changes) -/
  | tup (xs : List V)
  /-- a dict whose keys are ints and texts; one whose keys are tuples of ints and texts (the empty one is both) -/
  | dK (kvs : List (Key × V)) | dT (kvs : List (List Key × V))
  /-- a set of ints: its members, its size -/
  | set (S : Int → Bool) (n : Nat)
  /-- an instance of the class at C, its dict at dx, its attributes -/
  | ins (C dx : Addr) (fs : List (Str × V))
  /-- the dict of the instance at x -/
  | own (x : Addr)
  /-- the dict of an exception -/
  | xd (fs : List (Str × V))
  /-- a bound method, f of x -/
  | met (f x : Addr)
  /-- a range object lo, lo + 1, .. below hi -/
  | rng (lo hi : Int)
  /-- a thing that is known to the object (the script; a dict while a loop walks it): read, never written while it is so -/
  | frz (o : Obj) (u : HO)
  /-- a code object's table -/
  | tbl (ps : Array Value)
  /-- any other thing, by what is true of its one object (a def of one's own: SetO a S n := HO.ext fun h => ..) -/
  | ext (φ : Heap → Prop)
abbrev Hp := Addr → Option HO
def upd (H : Hp) (a : Addr) (o : HO) : Hp := fun b => if b = a then some o else H b
theorem upd_same {H : Hp} {a : Addr} {o : HO} : upd H a o a = some o := by unfold upd; rw [if_pos rfl]
theorem upd_ne {H : Hp} {a b : Addr} {o : HO} (h : b ≠ a) : upd H a o b = H b := by unfold upd; rw [if_neg h]
theorem upd_upd {H : Hp} {a : Addr} {o u : HO} : upd (upd H a o) a u = upd H a u := by
  funext b; unfold upd; split <;> rfl
theorem ne_of {H : Hp} {a b : Addr} {o u : HO} (h : H a = some o) (h' : H b = some u) (d : o ≠ u) : a ≠ b := by
  intro e; subst e; rw [h] at h'; exact d (Option.some.inj h')
theorem ne_of_none {H : Hp} {a b : Addr} {o : HO} (h : H a = some o) (h' : H b = none) : a ≠ b := by
  intro e; subst e; rw [h] at h'; cases h'
section
variable (P : Program) (w : World)
def ObjOk (H : Hp) (h : Heap) (a : Addr) : HO → Prop
  | .lst xs => xs.length ≤ sizeLine ∧ ∃ (its : List Value) (n : Nat), Vals xs its ∧ h.get? a = some { cls := .type "list", data := .seq its.toArray n }
  | .tup xs => xs.length ≤ sizeLine ∧ ∃ its : List Value, Vals xs its ∧ IsTup h a its.toArray
  | .dK kvs => kvs.length ≤ sizeLine ∧ (a == sysModules) = false ∧ ∃ vs, KV kvs vs ∧ h.DictOf (mixKind P w) a vs
  | .dT kvs => kvs.length ≤ sizeLine ∧ (a == sysModules) = false ∧ ∃ xs : List (List Key × Addr × Value),
      Paired (fun (p : List Key × V) (q : List Key × Addr × Value) => p.1 = q.1 ∧ H q.2.1 = some (.tup (p.1.map kV)) ∧ RelV p.2 q.2.2) kvs xs ∧
      ∃ o es ep, h.get? a = some o ∧ o.ExactDict ∧ o.data = .dict es ep ∧ es.toList = xs.map (entryOfKey (tupleKind (mixKind P w))) ∧ (xs.map (·.1)).Nodup
  | .set S n => h.SetOf (intKind P w) a S n
  | .ins C dx fs => H dx = some (.own a) ∧ fs.length ≤ 1000 ∧ dx ≠ a ∧ h.get? a = some (PySem.W.instObj C dx) ∧
      ∃ mA, h.Ns1 dx mA ∧ (∀ f, RelO (fs.lookup f) (mA f)) ∧ PySem.Within mA (fs.map (·.1))
  | .own _ => ∃ o, h.get? a = some o
  | .xd fs => ∃ mA, h.Ns1 a mA ∧ ∀ f, RelO (fs.lookup f) (mA f)
  | .rng lo hi => ∃ t u v, h.get? a = some { cls := .type "range", data := .fields #[.int lo t, .int hi u, .int 1 v] }
  | .frz o u => h.get? a = some o ∧ ObjOk H h a u
  | .tbl ps => h.get? a = some { cls := .none, data := .fields ps }
  | .met f x => h.get? a = some (PySem.W.methodObj (.ref f) (.ref x))
  | .ext φ => φ h ∧ (∃ o, h.get? a = some o) ∧ ∀ h1 h2 : Heap, φ h1 → (∀ o, h1.get? a = some o → h2.get? a = some o) → φ h2
def HOk (H : Hp) (h : Heap) : Prop := ∀ a o, H a = some o → ObjOk P w H h a o
end
section
variable {P : Program} {w : World} {H H' : Hp} {h h' : Heap} {a : Addr} {o : HO}
theorem ObjOk.lt (x : ObjOk P w H h a o) : a < h.objs.size := by
  cases o with
  | lst xs => obtain ⟨_, _, _, _, e⟩ := x; exact Heap.lt_size e
  | tup xs => obtain ⟨_, _, _, p⟩ := x; exact p.lt
  | dK kvs => obtain ⟨_, _, _, _, o, _, _, e, _⟩ := x; exact Heap.lt_size e
  | dT kvs => obtain ⟨_, _, _, _, o, _, _, e, _⟩ := x; exact Heap.lt_size e
  | set S n => obtain ⟨o, _, _, _, e, _⟩ := x; exact Heap.lt_size e
  | ins C dx fs => obtain ⟨_, _, _, e, _⟩ := x; exact Heap.lt_size e
  | own y => obtain ⟨_, e⟩ := x; exact Heap.lt_size e
  | xd fs => obtain ⟨_, ⟨_, _, _, e, _⟩, _⟩ := x; exact Heap.lt_size e
  | rng lo hi => obtain ⟨_, _, _, e⟩ := x; exact Heap.lt_size e
  | frz ob u => obtain ⟨e, _⟩ := x; exact Heap.lt_size e
  | tbl ps => exact Heap.lt_size (show h.get? a = some _ from x)
  | met f y => exact Heap.lt_size (show h.get? a = some _ from x)
  | ext φ => obtain ⟨_, ⟨_, e⟩, _⟩ := x; exact Heap.lt_size e
theorem Paired.mapP {α β : Type} {F G : α → β → Prop} : ∀ {l₁ : List α} {l₂ : List β}, Paired F l₁ l₂ → (∀ a b, F a b → G a b) → Paired G l₁ l₂
  | _, _, .nil, _ => .nil
  | _, _, .cons r t, f => .cons (f _ _ r) (Paired.mapP t f)
theorem ObjOk.stay (x : ObjOk P w H h a o) (k : ∀ b u, (b = a ∨ H b = some (.own a)) → h.get? b = some u → h'.get? b = some u)
    (ho : ∀ b, H b = some (.own a) → H' b = some (.own a)) (ht : ∀ b xs, H b = some (.tup xs) → H' b = some (.tup xs)) : ObjOk P w H' h' a o := by
  induction o with
  | lst xs => obtain ⟨z, its, n, r, e⟩ := x; exact ⟨z, its, n, r, k _ _ (.inl rfl) e⟩
  | tup xs => obtain ⟨z, its, r, ob, e, c⟩ := x; exact ⟨z, its, r, ob, k _ _ (.inl rfl) e, c⟩
  | dK kvs => obtain ⟨z, y, vs, r, ob, es, ep, e, c⟩ := x; exact ⟨z, y, vs, r, ob, es, ep, k _ _ (.inl rfl) e, c⟩
  | dT kvs =>
    obtain ⟨z, y, xs, r, ob, es, ep, e, c⟩ := x
    exact ⟨z, y, xs, Paired.mapP r fun p q z => ⟨z.1, ht _ _ z.2.1, z.2.2⟩, ob, es, ep, k _ _ (.inl rfl) e, c⟩
  | set S n => obtain ⟨ob, es, ep, t, e, c⟩ := x; exact ⟨ob, es, ep, t, k _ _ (.inl rfl) e, c⟩
  | ins C dx fs =>
    obtain ⟨d, z, ne, e, mA, ⟨od, es, ep, e2, c⟩, r⟩ := x
    exact ⟨ho _ d, z, ne, k _ _ (.inl rfl) e, mA, ⟨od, es, ep, k _ _ (.inr d) e2, c⟩, r⟩
  | own y => obtain ⟨ob, e⟩ := x; exact ⟨ob, k _ _ (.inl rfl) e⟩
  | xd fs => obtain ⟨mA, ⟨od, es, ep, e, c⟩, r⟩ := x; exact ⟨mA, ⟨od, es, ep, k _ _ (.inl rfl) e, c⟩, r⟩
  | rng lo hi => obtain ⟨t, u, v, e⟩ := x; exact ⟨t, u, v, k _ _ (.inl rfl) e⟩
  | frz ob u ih => obtain ⟨e, q⟩ := x; exact ⟨k _ _ (.inl rfl) e, ih q⟩
  | tbl ps =>
    have e : h.get? a = some { cls := .none, data := .fields ps } := x
    show h'.get? a = some { cls := .none, data := .fields ps }
    exact k a _ (.inl rfl) e
  | met f y =>
    have e : h.get? a = some (PySem.W.methodObj (.ref f) (.ref y)) := x
    show h'.get? a = some (PySem.W.methodObj (.ref f) (.ref y))
    exact k a _ (.inl rfl) e
  | ext φ => obtain ⟨p, ⟨o, e⟩, st⟩ := x; exact ⟨st _ _ p fun o q => k _ _ (.inl rfl) q, ⟨o, k _ _ (.inl rfl) e⟩, st⟩
theorem HOk.lt (x : HOk P w H h) (e : H a = some o) : a < h.objs.size := (x a o e).lt
theorem HOk.fresh (x : HOk P w H h) (e : h.objs.size ≤ a) : H a = none := by
  cases q : H a with
  | none => rfl
  | some u => exact absurd (Nat.lt_of_lt_of_le (x.lt q) e) (Nat.lt_irrefl _)
theorem HOk.kept (x : HOk P w H h) (k : ∀ b u, h.get? b = some u → h'.get? b = some u) : HOk P w H h' := fun a o e =>
  (x a o e).stay (fun b u _ q => k b u q) (fun _ q => q) fun _ _ q => q
theorem HOk.laid (x : HOk P w H h) (k : ∀ b u, h.get? b = some u → h'.get? b = some u) (hp : h.objs.size ≤ a) (new : ObjOk P w (upd H a o) h' a o) : HOk P w (upd H a o) h' := fun b u e => by
  have hn := x.fresh hp
  by_cases hb : b = a
  · subst hb; rw [upd_same] at e; cases e; exact new
  · rw [upd_ne hb] at e
    exact (x b u e).stay (fun c v _ q => k c v q) (fun c q => by rw [upd_ne (ne_of_none q hn)]; exact q) fun c xs q => by rw [upd_ne (ne_of_none q hn)]; exact q
end
def Rd (H : Hp) (a : Addr) (u : HO) : Prop := H a = some u ∨ ∃ o, H a = some (.frz o u)
theorem Rd.ok {P : Program} {w : World} {H : Hp} {h : Heap} {a : Addr} {u : HO} (r : Rd H a u) (x : HOk P w H h) : ObjOk P w H h a u := by
  rcases r with r | ⟨o, r⟩
  · exact x a u r
  · obtain ⟨_, q⟩ := x a _ r
    exact q
def Mut : Option HO → Prop
  | some (.lst _) => True
  | some (.dK _) => True
  | some (.dT _) => True
  | some (.set _ _) => True
  | some (.ins _ _ _) => True
  | some (.ext _) => True
  | _ => False
section
variable {P : Program} {w : World} {H : Hp} {h h' : Heap} {x e : Addr} {o' : HO}
theorem HOk.write (ok : HOk P w H h) (mu : Mut (H x)) (he : e = x ∨ H e = some (.own x)) (k : ∀ b u, b ≠ e → h.get? b = some u → h'.get? b = some u) (heo : ∃ u, h'.get? e = some u)
    (new : ObjOk P w (upd H x o') h' x o') : HOk P w (upd H x o') h' := fun b u q => by
  have nown : ∀ c y, H c = some (.own y) → c ≠ x := fun c y r z => by subst z; rw [r] at mu; exact mu
  have ntup : ∀ c xs, H c = some (.tup xs) → c ≠ x := fun c xs r z => by subst z; rw [r] at mu; exact mu
  by_cases hb : b = x
  · subst hb; rw [upd_same] at q; cases q; exact new
  · rw [upd_ne hb] at q
    by_cases hbe : b = e
    · have q' : H b = some (.own x) := by
        rcases he with z | z
        · exact absurd (hbe.trans z) hb
        · rw [hbe]; exact z
      rw [q] at q'; cases q'
      obtain ⟨v, hv⟩ := heo
      exact ⟨v, by rw [hbe]; exact hv⟩
    · refine (ok b u q).stay (fun c v hc r => k c v ?_ r) (fun c r => by rw [upd_ne (nown c b r)]; exact r) fun c xs r => by rw [upd_ne (ntup c xs r)]; exact r
      rcases hc with rfl | hc
      · exact hbe
      · rintro rfl
        rcases he with z | z
        · exact nown c b hc z
        · rw [hc] at z; cases z; exact hb rfl
end
structure Un (fs ex : List Addr) (H H' : Hp) (h h' : Heap) : Prop where
  keep : ∀ b o, h.get? b = some o → H b = none → b ∉ fs → b ∉ ex → h'.get? b = some o
  slot : ∀ b o, h.get? b = some o → H b = none → b ∈ fs → b ∉ ex → ∃ sl, h'.get? b = some { o with slots := sl }
  free : ∀ b o, h.get? b = some o → H b = none → b ∉ ex → H' b = none
  there : ∀ b o, h.get? b = some o → b ∉ ex → ∃ o', h'.get? b = some o'
  tups : ∀ b xs, H b = some (.tup xs) → H' b = some (.tup xs)
  frzs : ∀ b o u, H b = some (.frz o u) → H' b = some (.frz o u)
  tbls : ∀ b ps, H b = some (.tbl ps) → ∃ more, H' b = some (.tbl (ps ++ more))
section
variable {fs fs' ex ex' : List Addr} {H H1 H2 : Hp} {h h1 h2 h' : Heap} {a x e : Addr} {o : HO}
theorem Un.any (u : Un fs ex H H1 h h1) {b : Addr} {ob : Obj} (q : h.get? b = some ob) (n : H b = none) (hx : b ∉ ex) : ∃ sl, h1.get? b = some { ob with slots := sl } := by
  by_cases hb : b ∈ fs
  · exact u.slot b ob q n hb hx
  · exact ⟨ob.slots, u.keep b ob q n hb hx⟩
theorem Un.kept (k : ∀ b u, h.get? b = some u → h'.get? b = some u) : Un fs ex H H h h' :=
  ⟨fun b ob q _ _ _ => k b ob q, fun b ob q _ _ _ => ⟨ob.slots, k b ob q⟩, fun _ _ _ n _ => n, fun b ob q _ => ⟨ob, k b ob q⟩, fun _ _ q => q, fun _ _ _ q => q, fun _ ps q => ⟨#[], by rw [q]; simp⟩⟩
theorem Un.refl : Un fs ex H H h h := Un.kept fun _ _ q => q
theorem Un.laid (k : ∀ b u, h.get? b = some u → h'.get? b = some u) (hp : h.objs.size ≤ a) (hn : H a = none) : Un fs ex H (upd H a o) h h' where
  keep := fun b u q _ _ _ => k b u q
  slot := fun b u q _ _ _ => ⟨u.slots, k b u q⟩
  free := fun b u q n _ => by rw [upd_ne (Nat.ne_of_lt (Nat.lt_of_lt_of_le (Heap.lt_size q) hp))]; exact n
  there := fun b u q _ => ⟨u, k b u q⟩
  tups := fun b xs q => by rw [upd_ne (ne_of_none q hn)]; exact q
  frzs := fun b u xs q => by rw [upd_ne (ne_of_none q hn)]; exact q
  tbls := fun b ps q => ⟨#[], by rw [upd_ne (ne_of_none q hn), q]; simp⟩
theorem Un.write (mu : Mut (H x)) (he : e = x ∨ H e = some (.own x)) (k : ∀ b u, b ≠ e → h.get? b = some u → h'.get? b = some u) (heo : ∃ u, h'.get? e = some u) : Un fs ex H (upd H x o) h h' := by
  have hx : ∀ b, H b = none → b ≠ x := fun b n z => by subst z; rw [n] at mu; exact mu
  have hb : ∀ b, H b = none → b ≠ e := fun b n z => by
    subst z
    rcases he with r | r
    · exact hx b n r
    · rw [n] at r; cases r
  have hm : ∀ b u, H b = some u → ¬ Mut (some u) → b ≠ x := fun b u q nm z => by subst z; rw [q] at mu; exact nm mu
  refine ⟨fun b u q n _ _ => k b u (hb b n) q, fun b u q n _ _ => ⟨u.slots, k b u (hb b n) q⟩, fun b u q n _ => by rw [upd_ne (hx b n)]; exact n, fun b u q _ => ?_,
    fun b xs q => by rw [upd_ne (hm b _ q fun z => z)]; exact q, fun b u xs q => by rw [upd_ne (hm b _ q fun z => z)]; exact q, fun b ps q => ⟨#[], by rw [upd_ne (hm b _ q fun z => z), q]; simp⟩⟩
  by_cases hbe : b = e
  · subst hbe; exact heo
  · exact ⟨u, k b u hbe q⟩
end
def trk (h : Heap) (H : Hp) : List Addr := (List.range h.objs.size).filter fun a => (H a).isSome
def hidT (h : Heap) (H : Hp) : Heap := PySem.W.hideAll h (trk h H)
theorem hidT_size (h : Heap) (H : Hp) : (hidT h H).objs.size = h.objs.size := PySem.W.hideAll_size _ _
theorem hidT_get {h : Heap} {H : Hp} {b : Addr} {o : Obj} (e : h.get? b = some o) (n : H b = none) : (hidT h H).get? b = some o :=
  PySem.W.hideAll_get _ e fun hm => by
    have q : (H b).isSome = true := (List.mem_filter.mp hm).2
    rw [n] at q; simp at q
theorem of_hidT {h : Heap} {H : Hp} {b : Addr} {o : Obj} (e : (hidT h H).get? b = some o) : h.get? b = some o ∧ H b = none := by
  have e' : h.get? b = some o := PySem.W.of_hideAll (trk h H) e
  refine ⟨e', ?_⟩
  cases q : H b with
  | none => rfl
  | some x =>
    have hm : b ∈ trk h H := List.mem_filter.mpr ⟨List.mem_range.mpr (Heap.lt_size e'), by simp [q]⟩
    have z : (hidT h H).get? b = none := PySem.W.hideAll_none (trk h H) hm
    rw [z] at e; cases e
end L2
namespace L2
open PySem PySem.Spec PyProof.Rows
structure Mod (K : PySem.W.Frag) (mg : Str → Option Value) (base : Heap) : Prop where
  kin : K.In base
  glob : base.Ns mainGlobals mg
  blt : ∃ mb, base.Ns builtinsNs mb ∧ ∀ x : Str, x ≠ "__name__" → mb x = bootBuiltins x
  nolimit : base.NoLimit
structure Cx where
  prog : Program
  w : World
  K : PySem.W.Frag
  mg : Str → Option Value
  base : Heap
  A : Around
  N : List Str
  s_0 : Shared
  H_0 : Hp
  env : Env
  outer : List Env
  stack : List Env
  ex : List Addr
  fn : Str → Bool
  calm : Bool
  pn : List (Addr × Obj)
  xe : Value → Shared → Prop
def frs (l : List Env) : List Addr := l.filterMap (·.frame)
abbrev Cx.fs (X : Cx) : List Addr := frs X.outer
def Vis (sc : Scope) (x : Str) : Prop := sc.names.lookup x = some .local ∨ sc.names.lookup x = some .cell ∨ sc.names.lookup x = some .free
def Loc (sc : Scope) (x : Str) : Prop := sc.names.lookup x = some .local ∨ sc.names.lookup x = some .cell
def Look (env : Env) (h : Heap) (m : Str → Option Value) (x : Str) (u : Value) : Prop :=
  (env.kindOf x = some .local ∧ m x = some u) ∨ ((env.kindOf x = some .cell ∨ env.kindOf x = some .free) ∧ ∃ c, env.cells.lookup x = some c ∧ h.IsCell c (some u))
structure Cx.Ok (X : Cx) : Prop where
  mod : Mod X.K X.mg X.base
  kind : X.env.scope.kind = .function
  glob : X.env.globals = mainGlobals
  blt : X.env.builtins = builtinsNs
  above : X.s_0.heap.objs.size ≤ X.env.locals
  inj : ∀ x y c, X.env.cells.lookup x = some c → X.env.cells.lookup y = some c → x = y
  has : ∀ x, (X.env.kindOf x = some .cell ∨ X.env.kindOf x = some .free) → ∃ c, X.env.cells.lookup x = some c
  cab : ∀ x c, X.fn x = true → X.env.cells.lookup x = some c → X.s_0.heap.objs.size ≤ c
  hd : X.calm = true → X.A.handled = none
  frames : X.A.frames = some X.stack
  stk : X.stack = X.outer ∨ (X.stack = X.env :: X.outer ∧ X.env.frame = some X.env.locals)
  exf : ∀ b ∈ X.ex, b ≠ X.env.locals ∧ ∀ x c, X.env.cells.lookup x = some c → c ≠ b
  bs : ∀ b o, X.base.get? b = some o → X.s_0.heap.get? b = some o ∧ X.H_0 b = none
  bsz : X.base.objs.size ≤ X.s_0.heap.objs.size
  noex : ∀ b o, X.base.get? b = some o → b ∉ X.ex
  exfs : ∀ b ∈ X.ex, b ∉ X.fs
  funs : X.s_0.heap.FunFrames X.base X.outer
  frf : ∀ b ∈ X.fs, X.H_0 b = none
structure Inv (X : Cx) (pins : List (Addr × Obj)) (σ : List (Option V)) (H : Hp) (s : Shared) : Prop where
  ok : X.Ok
  os : s.os = X.s_0.os
  bare : AllBare s.gens
  base : Un X.fs X.ex X.H_0 H X.s_0.heap s.heap
  loc : ∃ m, s.heap.Ns X.env.locals m ∧ ∀ (i : Nat) (x : Str) (v : V), X.N[i]? = some x → σ[i]? = some (some v) → Vis X.env.scope x → ∃ u, RelV v u ∧ Look X.env s.heap m x u
  cell : ∀ x c, X.env.cells.lookup x = some c → ∃ v, s.heap.IsCell c v
  free : H X.env.locals = none
  freeC : ∀ x c, X.env.cells.lookup x = some c → H c = none
  pin : ∀ p ∈ X.pn ++ pins, s.heap.get? p.1 = some p.2 ∧ H p.1 = none ∧ p.1 ≠ X.env.locals ∧ p.1 ∉ X.fs ∧ ∀ v, p.2.data ≠ .cell v
  hok : HOk X.prog X.w H s.heap
  len : σ.length = X.N.length
section
variable {X : Cx} {pins : List (Addr × Obj)} {σ : List (Option V)} {H H' : Hp} {s : Shared} {h' : Heap}
theorem Cx.Ok.nofr (ok : X.Ok) {b : Addr} {o : Obj} (e : X.base.get? b = some o) : b ∉ X.fs := fun hb => by
  have := (ok.funs.mem hb).1
  rw [e] at this; cases this
theorem Inv.bs (I : Inv X pins σ H s) : ∀ b o, X.base.get? b = some o → s.heap.get? b = some o ∧ H b = none := fun b o e =>
  ⟨I.base.keep b o (I.ok.bs b o e).1 (I.ok.bs b o e).2 (I.ok.nofr e) (I.ok.noex b o e), I.base.free b o (I.ok.bs b o e).1 (I.ok.bs b o e).2 (I.ok.noex b o e)⟩
theorem Inv.bk (I : Inv X pins σ H s) : ∀ b o, X.base.get? b = some o → s.heap.get? b = some o := fun b o e => (I.bs b o e).1
theorem Inv.mod (I : Inv X pins σ H s) : Mod X.K X.mg X.base := I.ok.mod
theorem Inv.kIn (I : Inv X pins σ H s) : X.K.In s.heap := I.ok.mod.kin.keeps I.bk
theorem Inv.fr (I : Inv X pins σ H s) : ∃ m, Fr X.base X.env.locals s.heap m :=
  let ⟨m, hn, _⟩ := I.loc
  ⟨m, hn, I.bk, Nat.le_trans I.ok.bsz I.ok.above⟩
theorem Inv.lt (I : Inv X pins σ H s) : X.env.locals < s.heap.objs.size := let ⟨_, hn, _⟩ := I.loc; hn.lt
theorem Inv.sz (I : Inv X pins σ H s) : X.s_0.heap.objs.size ≤ s.heap.objs.size := Nat.le_trans I.ok.above (Nat.le_of_lt I.lt)
theorem Inv.nofs (I : Inv X pins σ H s) {a : Addr} (h : s.heap.objs.size ≤ a) : a ∉ X.fs := fun hb => by
  obtain ⟨_, o, ho, _⟩ := I.ok.funs.mem hb
  exact absurd (Nat.lt_of_lt_of_le (Heap.lt_size ho) (Nat.le_trans I.sz h)) (Nat.lt_irrefl _)
theorem Inv.cne (I : Inv X pins σ H s) : ∀ x c, X.env.cells.lookup x = some c → c ≠ X.env.locals := fun x c e z => by
  obtain ⟨v, o, ho, hd⟩ := I.cell x c e
  obtain ⟨m, ⟨o', es, ep, ho', hd', _⟩, _⟩ := I.loc
  rw [z, ho'] at ho; cases ho; rw [hd'] at hd; cases hd
theorem Inv.funs (I : Inv X pins σ H s) : s.heap.FunFrames X.base X.outer := by
  have all : ∀ (l : List Env), (∀ b ∈ frs l, b ∈ X.fs) → X.s_0.heap.FunFrames X.base l → s.heap.FunFrames X.base l := by
    intro l
    induction l with
    | nil => intro _ _; trivial
    | cons env r ih =>
      intro hs hl
      obtain ⟨hk, ⟨L, o, hf, hn, ho, hd⟩, hr⟩ := hl
      have hL : L ∈ X.fs := hs L (by unfold frs; rw [List.filterMap_cons, hf]; exact List.mem_cons_self)
      obtain ⟨sl, e⟩ := I.base.slot L o ho (I.ok.frf L hL) hL fun z => I.ok.exfs L z hL
      exact ⟨hk, ⟨L, _, hf, hn, e, hd⟩, ih (fun b hb => hs b (by unfold frs; rw [List.filterMap_cons, hf]; exact List.mem_cons_of_mem _ hb)) hr⟩
  exact all X.outer (fun _ hb => hb) I.ok.funs
theorem Inv.stack (I : Inv X pins σ H s) : s.heap.FunFrames X.base X.stack := by
  rcases I.ok.stk with e | ⟨e, hf⟩
  · rw [e]; exact I.funs
  · rw [e]
    obtain ⟨m, hn, _⟩ := I.loc
    refine .cons (by rw [I.ok.kind]; decide) hf hn ?_ I.funs
    exact Heap.get?_none_of_le (Nat.le_trans I.ok.bsz I.ok.above)
theorem Inv.stkSub (I : Inv X pins σ H s) : ∀ b ∈ frs X.stack, b ∈ X.env.locals :: X.fs := fun b hb => by
  rcases I.ok.stk with e | ⟨e, hf⟩
  · rw [e] at hb; exact List.mem_cons_of_mem _ hb
  · rw [e] at hb
    unfold frs at hb
    rw [List.filterMap_cons, hf] at hb
    exact hb
theorem Inv.stkFree (I : Inv X pins σ H s) : ∀ b ∈ frs X.stack, H b = none := fun b hb => by
  rcases List.mem_cons.mp (I.stkSub b hb) with e | hb
  · rw [e]; exact I.free
  · obtain ⟨_, o, ho, _⟩ := I.ok.funs.mem hb
    exact I.base.free b o ho (I.ok.frf b hb) fun z => I.ok.exfs b z hb
theorem Inv.step {g' : Array GenState} {t' : Nat} {d' : Drawn} {ch : List Addr} (I : Inv X pins σ H s)
    (hch : ∀ b ∈ ch, (b ∈ X.ex ∨ X.s_0.heap.objs.size ≤ b) ∧ b ≠ X.env.locals ∧ (∀ x c, X.env.cells.lookup x = some c → c ≠ b) ∧ ∀ p ∈ X.pn ++ pins, p.1 ≠ b)
    (keep : ∀ b o, b ≠ X.env.locals → b ∉ X.fs → b ∉ ch → s.heap.get? b = some o → H b = none → h'.get? b = some o)
    (slot : ∀ b o, b ≠ X.env.locals → b ∈ X.fs → b ∉ ch → s.heap.get? b = some o → H b = none → ∃ sl, h'.get? b = some { o with slots := sl }) (free : ∀ b o, b ∉ ch → s.heap.get? b = some o → H b = none → H' b = none)
    (there : ∀ b o, b ∉ ch → s.heap.get? b = some o → ∃ o', h'.get? b = some o')
    (tups : ∀ b xs, H b = some (.tup xs) → H' b = some (.tup xs)) (frzs : ∀ b o u, H b = some (.frz o u) → H' b = some (.frz o u)) (tbls : ∀ b ps, H b = some (.tbl ps) → ∃ more, H' b = some (.tbl (ps ++ more)))
    (ns : ∀ m, s.heap.Ns X.env.locals m → h'.Ns X.env.locals m) (hok : HOk X.prog X.w H' h') (hg : AllBare g') :
    Inv X pins σ H' { s with heap := h', gens := g', drawn := d', toks := t' } := by
  have neL : ∀ b o, X.s_0.heap.get? b = some o → b ≠ X.env.locals := fun b o e => Nat.ne_of_lt (Nat.lt_of_lt_of_le (Heap.lt_size e) I.ok.above)
  have neC : ∀ b o, X.s_0.heap.get? b = some o → b ∉ X.ex → b ∉ ch := fun b o e hx hb => by
    rcases (hch b hb).1 with z | z
    · exact hx z
    · exact absurd (Nat.lt_of_lt_of_le (Heap.lt_size e) z) (Nat.lt_irrefl _)
  have cellK : ∀ x c, X.env.cells.lookup x = some c → ∀ v, s.heap.IsCell c v → h'.IsCell c v := fun x c e v ⟨o, ho, hd⟩ => by
    have nch : c ∉ ch := fun z => (hch c z).2.2.1 x c e rfl
    by_cases hc : c ∈ X.fs
    · obtain ⟨sl, q⟩ := slot c o (I.cne x c e) hc nch ho (I.freeC x c e)
      exact ⟨_, q, hd⟩
    · exact ⟨o, keep c o (I.cne x c e) hc nch ho (I.freeC x c e), hd⟩
  refine ⟨I.ok, I.os, hg, ⟨fun b o e n hb hx => ?_, fun b o e n hb hx => ?_, fun b o e n hx => ?_, fun b o e hx => ?_, fun b xs e => tups b xs (I.base.tups b xs e), fun b o xs e => frzs b o xs (I.base.frzs b o xs e), fun b ps e => ?_⟩, ?_, fun x c e => ?_, ?_, fun x c e => ?_, fun p hp => ?_, hok, I.len⟩
  · exact keep b o (neL b o e) hb (neC b o e hx) (I.base.keep b o e n hb hx) (I.base.free b o e n hx)
  · obtain ⟨sl, e1⟩ := I.base.slot b o e n hb hx
    obtain ⟨sl', e2⟩ := slot b _ (neL b o e) hb (neC b o e hx) e1 (I.base.free b o e n hx)
    exact ⟨sl', e2⟩
  · obtain ⟨o', e1⟩ := I.base.there b o e hx
    exact free b o' (neC b o e hx) e1 (I.base.free b o e n hx)
  · obtain ⟨o', e1⟩ := I.base.there b o e hx
    exact there b o' (neC b o e hx) e1
  · obtain ⟨m1, e1⟩ := I.base.tbls b ps e
    obtain ⟨m2, e2⟩ := tbls b _ e1
    exact ⟨m1 ++ m2, by rw [e2, Array.append_assoc]⟩
  · obtain ⟨m, hn, hl⟩ := I.loc
    refine ⟨m, ns m hn, fun i x v e1 e2 e3 => ?_⟩
    obtain ⟨u, r, l⟩ := hl i x v e1 e2 e3
    refine ⟨u, r, ?_⟩
    rcases l with l | ⟨k, c, e, z⟩
    · exact .inl l
    · exact .inr ⟨k, c, e, cellK x c e _ z⟩
  · obtain ⟨v, z⟩ := I.cell x c e
    exact ⟨v, cellK x c e v z⟩
  · obtain ⟨m, ⟨o, _, _, ho, _⟩, _⟩ := I.loc
    exact free _ o (fun z => (hch _ z).2.1 rfl) ho I.free
  · obtain ⟨v, o, ho, hd⟩ := I.cell x c e
    exact free c o (fun z => (hch c z).2.2.1 x c e rfl) ho (I.freeC x c e)
  · obtain ⟨e, n, ne, nf, d⟩ := I.pin p hp
    have nch : p.1 ∉ ch := fun z => (hch p.1 z).2.2.2 p hp rfl
    exact ⟨keep p.1 p.2 ne nf nch e n, free p.1 p.2 nch e n, ne, nf, d⟩
theorem Inv.un {t' : Nat} (I : Inv X pins σ H s) (u : Un X.fs [] H H' s.heap h') (hok : HOk X.prog X.w H' h') : Inv X pins σ H' { s with heap := h', toks := t' } := by
  obtain ⟨m, ⟨o, es, ep, ho, r⟩, _⟩ := id I.loc
  obtain ⟨sl, hL⟩ := u.any ho I.free (by simp)
  exact I.step (g' := s.gens) (d' := s.drawn) (ch := []) (fun _ z => nomatch z) (fun b o _ hb _ e n => u.keep b o e n hb (by simp)) (fun b o _ hb _ e n => u.slot b o e n hb (by simp)) (fun b o _ e n => u.free b o e n (by simp)) (fun b o _ e => u.there b o e (by simp)) u.tups u.frzs u.tbls (fun m' hm => by
    obtain ⟨o', es', ep', ho', r'⟩ := hm
    rw [ho] at ho'; cases ho'
    exact ⟨_, es', ep', hL, r'⟩) hok I.bare
theorem Inv.call {g' : Array GenState} {t' : Nat} {d' : Drawn} {ch : List Addr} (I : Inv X pins σ H s) (u : Un (frs X.stack) ch H H' s.heap h') (hok : HOk X.prog X.w H' h') (hg : AllBare g')
    (hch : ∀ b ∈ ch, (b ∈ X.ex ∨ X.s_0.heap.objs.size ≤ b) ∧ b ≠ X.env.locals ∧ (∀ x c, X.env.cells.lookup x = some c → c ≠ b) ∧ ∀ p ∈ X.pn ++ pins, p.1 ≠ b) :
    Inv X pins σ H' { s with heap := h', gens := g', drawn := d', toks := t' } := by
  obtain ⟨m, ⟨o, es, ep, ho, r⟩, _⟩ := id I.loc
  obtain ⟨sl, hL⟩ := u.any ho I.free fun z => (hch _ z).2.1 rfl
  exact I.step (ch := ch) hch (fun b o hL hb hc e n => u.keep b o e n (fun z => (List.mem_cons.mp (I.stkSub b z)).elim hL hb) hc) (fun b o _ _ hc e n => u.any e n hc) (fun b o hc e n => u.free b o e n hc) (fun b o hc e => u.there b o e hc) u.tups u.frzs u.tbls (fun m' hm => by
    obtain ⟨o', es', ep', ho', r'⟩ := hm
    rw [ho] at ho'; cases ho'
    exact ⟨_, es', ep', hL, r'⟩) hok hg
theorem Inv.turned {t' : Nat} {it : Addr} (I : Inv X pins σ H s) (k : ∀ b o, b ≠ it → s.heap.get? b = some o → h'.get? b = some o) (hn : H it = none) (hL : it ≠ X.env.locals)
    (h1 : it ∈ X.ex ∨ X.s_0.heap.objs.size ≤ it) (h2 : ∀ x c, X.env.cells.lookup x = some c → c ≠ it) (h3 : ∀ p ∈ X.pn ++ pins, p.1 ≠ it) : Inv X pins σ H { s with heap := h', toks := t' } := by
  have nit : ∀ b u, H b = some u → b ≠ it := fun b u e z => by rw [z, hn] at e; cases e
  refine I.step (g' := s.gens) (d' := s.drawn) (ch := [it]) (fun b hb => ?_) (fun b o _ _ hc e _ => k b o (fun z => hc (by simp [z])) e) (fun b o _ _ hc e _ => ⟨o.slots, k b o (fun z => hc (by simp [z])) e⟩) (fun _ _ _ _ n => n)
    (fun b o hc e => ⟨o, k b o (fun z => hc (by simp [z])) e⟩) (fun _ _ e => e) (fun _ _ _ e => e) (fun b ps e => ⟨#[], by rw [e]; simp⟩) (fun m hm => ?_) (fun b u e => ?_) I.bare
  · have e : b = it := by simpa using hb
    subst e
    exact ⟨h1, hL, h2, h3⟩
  · obtain ⟨o, es, ep, ho, r⟩ := hm
    exact ⟨o, es, ep, k _ o (Ne.symm hL) ho, r⟩
  · refine (I.hok b u e).stay (fun c v hc q => k c v ?_ q) (fun _ q => q) fun _ _ q => q
    rcases hc with z | z
    · rw [z]; exact nit b u e
    · exact nit c _ z
theorem Inv.tok (I : Inv X pins σ H s) (t : Nat) : Inv X pins σ H { s with toks := t } := I.un (h' := s.heap) (t' := t) Un.refl I.hok
theorem Inv.kept {t' : Nat} (I : Inv X pins σ H s) (k : ∀ b u, s.heap.get? b = some u → h'.get? b = some u) : Inv X pins σ H { s with heap := h', toks := t' } := I.un (Un.kept k) (I.hok.kept k)
theorem Inv.laid {a : Addr} {o : HO} {t' : Nat} (I : Inv X pins σ H s) (k : ∀ b u, s.heap.get? b = some u → h'.get? b = some u) (hp : s.heap.objs.size ≤ a) (new : ObjOk X.prog X.w (upd H a o) h' a o) :
    Inv X pins σ (upd H a o) { s with heap := h', toks := t' } := I.un (Un.laid k hp (I.hok.fresh hp)) (I.hok.laid k hp new)
theorem Inv.write {x e : Addr} {o : HO} {t' : Nat} (I : Inv X pins σ H s) (mu : Mut (H x)) (he : e = x ∨ H e = some (.own x)) (k : ∀ b u, b ≠ e → s.heap.get? b = some u → h'.get? b = some u) (heo : ∃ u, h'.get? e = some u)
    (new : ObjOk X.prog X.w (upd H x o) h' x o) : Inv X pins σ (upd H x o) { s with heap := h', toks := t' } := I.un (Un.write mu he k heo) (I.hok.write mu he k heo new)
theorem Inv.weak {σ' : List (Option V)} (I : Inv X pins σ H s) (hl : σ'.length = σ.length) (w : ∀ (i : Nat) v, σ'[i]? = some (some v) → σ[i]? = some (some v)) : Inv X pins σ' H s :=
  ⟨I.ok, I.os, I.bare, I.base, let ⟨m, hn, hl'⟩ := I.loc; ⟨m, hn, fun i x v e1 e2 e3 => hl' i x v e1 (w i v e2) e3⟩, I.cell, I.free, I.freeC, I.pin, I.hok, hl.trans I.len⟩
theorem Inv.pins_of {pins' : List (Addr × Obj)} (I : Inv X pins σ H s) (h : ∀ p ∈ pins', s.heap.get? p.1 = some p.2 ∧ H p.1 = none ∧ p.1 ≠ X.env.locals ∧ p.1 ∉ X.fs ∧ ∀ v, p.2.data ≠ .cell v) : Inv X pins' σ H s :=
  ⟨I.ok, I.os, I.bare, I.base, I.loc, I.cell, I.free, I.freeC, fun p hp => (List.mem_append.mp hp).elim (fun z => I.pin p (List.mem_append_left _ z)) (h p), I.hok, I.len⟩
theorem nodup_ix {N : List Str} (hN : N.Nodup) {i j : Nat} {x : Str} (a : N[i]? = some x) (b : N[j]? = some x) : i = j := by
  obtain ⟨h1, e1⟩ := List.getElem?_eq_some_iff.mp a
  obtain ⟨h2, e2⟩ := List.getElem?_eq_some_iff.mp b
  exact (List.getElem_inj hN).mp (e1.trans e2.symm)
theorem store_ok2 {M : Model} {A : Around} {E : Value → Shared → Prop} {i : Nat} {x : Str} {v : V} {u : Value} {Q : Unit → Shared → Prop} (I : Inv X pins σ H s) (hN : X.N.Nodup) (hi : X.N[i]? = some x) (hx : Loc X.env.scope x) (r : RelV v u)
    (h : ∀ s', Inv X pins (σ.set i (some v)) H s' → (∃ a, Heap.SameBut a s.heap s'.heap ∧ (a = X.env.locals ∨ X.env.cells.lookup x = some a)) → Q () s') (hf : X.fn x = true ∨ X.env.scope.names.lookup x = some .local := by first | exact .inl rfl | exact .inr rfl | assumption) : wpAny M A (storeName X.env x u) Q E s := by
  obtain ⟨m, hn, hl⟩ := id I.loc
  have hcls : (X.env.scope.kind == .class || (X.env.scope.kind == .module && X.env.locals != X.env.globals)) = false := by rw [I.ok.kind]; rfl
  have hiσ : i < σ.length := by rw [I.len]; exact (List.getElem?_eq_some_iff.mp hi).1
  have cne := I.cne
  have tracked : ∀ {a : Addr} {h' : Heap}, (∃ o, s.heap.get? a = some o ∧ H a = none) → Heap.SameBut a s.heap h' → HOk X.prog X.w H h' := fun {a h'} ha hs b ob e => by
    obtain ⟨_, _, hfree⟩ := ha
    refine (I.hok b ob e).stay (fun c w' hc q => (hs.2 c ?_).trans q) (fun _ q => q) fun _ _ q => q
    rintro rfl
    rcases hc with rfl | hc
    · rw [hfree] at e; cases e
    · rw [hfree] at hc; cases hc
  rcases hx with hk | hk
  · refine wpAny_storeName_local hk hn (fun h' hn' hs => ?_) hcls
    obtain ⟨oL, _, _, hoL, _⟩ := id hn
    refine h _ ⟨I.ok, I.os, I.bare, ⟨fun b o e n hb hx => ?_, fun b o e n hb hx => ?_, I.base.free, fun b o e hx => ?_, I.base.tups, I.base.frzs, I.base.tbls⟩, ⟨_, hn', fun j y v' e1 e2 e3 => ?_⟩, fun y c e => ?_, I.free, I.freeC, fun p hp => ?_, tracked ⟨oL, hoL, I.free⟩ hs, by simpa using I.len⟩ ⟨_, hs, .inl rfl⟩
    · exact (hs.2 b (Nat.ne_of_lt (Nat.lt_of_lt_of_le (Heap.lt_size e) I.ok.above))).trans (I.base.keep b o e n hb hx)
    · obtain ⟨sl, e1⟩ := I.base.slot b o e n hb hx
      exact ⟨sl, (hs.2 b (Nat.ne_of_lt (Nat.lt_of_lt_of_le (Heap.lt_size e) I.ok.above))).trans e1⟩
    · obtain ⟨o', e1⟩ := I.base.there b o e hx
      exact ⟨o', (hs.2 b (Nat.ne_of_lt (Nat.lt_of_lt_of_le (Heap.lt_size e) I.ok.above))).trans e1⟩
    · by_cases hj : j = i
      · subst hj
        rw [hi] at e1; cases e1
        rw [List.getElem?_set_self hiσ] at e2
        cases e2
        exact ⟨u, r, .inl ⟨hk, by simp⟩⟩
      · rw [List.getElem?_set_ne (Ne.symm hj)] at e2
        obtain ⟨u', r', q⟩ := hl j y v' e1 e2 e3
        refine ⟨u', r', ?_⟩
        rcases q with ⟨k, e⟩ | ⟨k, c, e, z⟩
        · refine .inl ⟨k, ?_⟩
          have : y ≠ x := fun e => hj (nodup_ix hN e1 (e ▸ hi))
          simp [this, e]
        · exact .inr ⟨k, c, e, z.sameBut hs (cne y c e)⟩
    · obtain ⟨w', z⟩ := I.cell y c e
      exact ⟨w', z.sameBut hs (cne y c e)⟩
    · obtain ⟨e, n, ne, nf, d⟩ := I.pin p hp
      exact ⟨(hs.2 p.1 ne).trans e, n, ne, nf, d⟩
  · have hfn : X.fn x = true := by
      rcases hf with z | z
      · exact z
      · rw [z] at hk; cases hk
    obtain ⟨c, hc⟩ := I.ok.has x (.inl hk)
    obtain ⟨w', z⟩ := I.cell x c hc
    refine wpAny_storeName_cell I.ok.kind hk hc z (fun h' hc' hs => ?_)
    obtain ⟨oc, hoc, hocd⟩ := id z
    refine h { s with heap := h' } ⟨I.ok, I.os, I.bare, ⟨fun b o e n hb hx => ?_, fun b o e n hb hx => ?_, I.base.free, fun b o e hx => ?_, I.base.tups, I.base.frzs, I.base.tbls⟩, ⟨m, hn.sameBut hs (Ne.symm (cne x c hc)), fun j y v' e1 e2 e3 => ?_⟩, fun y c' e => ?_, I.free, I.freeC, fun p hp => ?_, tracked ⟨oc, hoc, I.freeC x c hc⟩ hs, by simpa using I.len⟩ ⟨c, hs, .inr hc⟩
    · exact (hs.2 b (Nat.ne_of_lt (Nat.lt_of_lt_of_le (Heap.lt_size e) (I.ok.cab x c hfn hc)))).trans (I.base.keep b o e n hb hx)
    · obtain ⟨sl, e1⟩ := I.base.slot b o e n hb hx
      exact ⟨sl, (hs.2 b (Nat.ne_of_lt (Nat.lt_of_lt_of_le (Heap.lt_size e) (I.ok.cab x c hfn hc)))).trans e1⟩
    · obtain ⟨o', e1⟩ := I.base.there b o e hx
      exact ⟨o', (hs.2 b (Nat.ne_of_lt (Nat.lt_of_lt_of_le (Heap.lt_size e) (I.ok.cab x c hfn hc)))).trans e1⟩
    · by_cases hj : j = i
      · subst hj
        rw [hi] at e1; cases e1
        rw [List.getElem?_set_self hiσ] at e2
        cases e2
        exact ⟨u, r, .inr ⟨.inl hk, c, hc, hc'⟩⟩
      · rw [List.getElem?_set_ne (Ne.symm hj)] at e2
        obtain ⟨u', r', q⟩ := hl j y v' e1 e2 e3
        refine ⟨u', r', ?_⟩
        rcases q with q | ⟨k, c', e, z'⟩
        · exact .inl q
        · refine .inr ⟨k, c', e, z'.sameBut hs ?_⟩
          rintro rfl
          exact hj (nodup_ix hN e1 (I.ok.inj _ _ _ e hc ▸ hi))
    · by_cases hcc : c' = c
      · subst hcc; exact ⟨_, hc'⟩
      · obtain ⟨w2, z2⟩ := I.cell y c' e
        exact ⟨w2, z2.sameBut hs hcc⟩
    · obtain ⟨e, n, ne, nf, d⟩ := I.pin p hp
      refine ⟨(hs.2 p.1 ?_).trans e, n, ne, nf, d⟩
      intro q
      rw [q, hoc] at e
      have q' : oc = p.2 := Option.some.inj e
      exact d w' (by rw [← q']; exact hocd)
theorem store_ok {M : Model} {A : Around} {E : Value → Shared → Prop} {i : Nat} {x : Str} {v : V} {u : Value} {Q : Unit → Shared → Prop} (I : Inv X pins σ H s) (hN : X.N.Nodup) (hi : X.N[i]? = some x) (hx : Loc X.env.scope x) (r : RelV v u)
    (h : ∀ s', Inv X pins (σ.set i (some v)) H s' → Q () s') (hf : X.fn x = true ∨ X.env.scope.names.lookup x = some .local := by first | exact .inl rfl | exact .inr rfl | assumption) : wpAny M A (storeName X.env x u) Q E s :=
  store_ok2 I hN hi hx r (fun s' I' _ => h s' I') hf
theorem Inv.call' {s' : Shared} {ch : List Addr} (I : Inv X pins σ H s) (ho : s'.os = s.os) (u : Un (frs X.stack) ch H H' s.heap s'.heap) (hok : HOk X.prog X.w H' s'.heap) (hg : AllBare s'.gens)
    (hch : ∀ b ∈ ch, (b ∈ X.ex ∨ X.s_0.heap.objs.size ≤ b) ∧ b ≠ X.env.locals ∧ (∀ x c, X.env.cells.lookup x = some c → c ≠ b) ∧ ∀ p ∈ X.pn ++ pins, p.1 ≠ b) : Inv X pins σ H' s' := by
  obtain ⟨h', g', d', t', o'⟩ := s'
  have e : o' = s.os := ho
  subst e
  exact I.call (g' := g') (t' := t') (d' := d') u hok hg hch
end
abbrev XK := Value → Option Addr → Hp → Prop
abbrev St := List (Option V)
abbrev VK := V → Hp → Prop
abbrev TE := St → Hp → VK → Prop
abbrev TT := St → Hp → (Bool → Hp → Prop) → Prop
abbrev TA := St → Hp → (List V → Hp → Prop) → Prop
structure Ends where
  nx : St → Hp → Prop
  rt : VK
  bk : St → Hp → Prop := fun _ _ => False
  ct : St → Hp → Prop := fun _ _ => False
abbrev TS := Ends → St → Hp → Prop
def EP (X : Cx) (pins : List (Addr × Obj)) (σ : St) (Q : VK) (u : Value) (s' : Shared) : Prop := ∃ v H', Inv X pins σ H' s' ∧ RelV v u ∧ Q v H'
def TP (X : Cx) (pins : List (Addr × Obj)) (σ : St) (Q : Bool → Hp → Prop) (b : Bool) (s' : Shared) : Prop := ∃ H', Inv X pins σ H' s' ∧ Q b H'
def AP (X : Cx) (pins : List (Addr × Obj)) (σ : St) (Q : List V → Hp → Prop) (us : List Value) (s' : Shared) : Prop := ∃ vs H', Inv X pins σ H' s' ∧ Vals vs us ∧ Q vs H'
def SP (X : Cx) (pins : List (Addr × Obj)) (D : Ends) (f : Flow) (s' : Shared) : Prop :=
  match f with
  | .next => ∃ σ' H', Inv X pins σ' H' s' ∧ D.nx σ' H'
  | .brk => ∃ σ' H', Inv X pins σ' H' s' ∧ D.bk σ' H'
  | .cont => ∃ σ' H', Inv X pins σ' H' s' ∧ D.ct σ' H'
  | .ret u => ∃ v σ' H', Inv X pins σ' H' s' ∧ RelV v u ∧ D.rt v H'
def PE (X : Cx) (e : Expr) (t : TE) : Prop :=
  ∀ (pins : List (Addr × Obj)) (s : Shared) (σ : St) (H : Hp) (Q : VK), Inv X pins σ H s → t σ H Q → wpAny (model X.prog X.w) X.A (eval e X.env) (EP X pins σ Q) X.xe s
def PT (X : Cx) (e : Expr) (t : TT) : Prop :=
  ∀ (pins : List (Addr × Obj)) (s : Shared) (σ : St) (H : Hp) (Q : Bool → Hp → Prop), Inv X pins σ H s → t σ H Q → wpAny (model X.prog X.w) X.A (isTrue e X.env (eval e X.env)) (TP X pins σ Q) X.xe s
def PW (X : Cx) (e : Expr) (t : TT) : Prop :=
  ∀ (whole : Sem Value) (pins : List (Addr × Obj)) (s : Shared) (σ : St) (H : Hp) (Q : Bool → Hp → Prop), Inv X pins σ H s → t σ H Q → wpAny (model X.prog X.w) X.A (isTrue e X.env whole) (TP X pins σ Q) X.xe s
theorem PW.pt {X : Cx} {e : Expr} {t : TT} (h : PW X e t) : PT X e t := h _
def PA (X : Cx) (es : List Expr) (t : TA) : Prop :=
  ∀ (pos : Pos) (pins : List (Addr × Obj)) (s : Shared) (σ : St) (H : Hp) (Q : List V → Hp → Prop), Inv X pins σ H s → t σ H Q → wpAny (model X.prog X.w) X.A (spliced (backTo pos (starEach es X.env))) (AP X pins σ Q) X.xe s
def PS (X : Cx) (st : Stmt) (t : TS) : Prop :=
  ∀ (pins : List (Addr × Obj)) (s : Shared) (σ : St) (H : Hp) (D : Ends), Inv X pins σ H s → t D σ H → wpAny (model X.prog X.w) X.A (exec st X.env) (SP X pins D) X.xe s
def PSs (X : Cx) (st : List Stmt) (t : TS) : Prop :=
  ∀ (pins : List (Addr × Obj)) (s : Shared) (σ : St) (H : Hp) (D : Ends), Inv X pins σ H s → t D σ H → wpAny (model X.prog X.w) X.A (execs st X.env) (SP X pins D) X.xe s
theorem thn {α : Type} {t : Sem α} {Q Q' : α → Shared → Prop} {M : Model} {A : Around} {E : Value → Shared → Prop} {s : Shared} (h : wpAny M A t Q E s) (hQ : ∀ a s, Q a s → Q' a s) : wpAny M A t Q' E s := wpAny_mono h hQ fun _ _ x => x
end L2
namespace L2
open PySem PySem.Spec PyProof.Rows
section
variable {X : Cx}
theorem bin {a b : Expr} {ta tb : TE} (ha : PE X a ta) (hb : PE X b tb) {pins : List (Addr × Obj)} {s : Shared} {σ : St} {H : Hp} {R : V → V → Hp → Prop} (I : Inv X pins σ H s) (h : ta σ H fun x H1 => tb σ H1 fun y H2 => R x y H2)
    {α : Type} {Q : α → Shared → Prop} {f : Value → Value → Sem α}
    (hf : ∀ v u s2 x y H2, Inv X pins σ H2 s2 → RelV x v → RelV y u → R x y H2 → wpAny (model X.prog X.w) X.A (f v u) Q X.xe s2) :
    wpAny (model X.prog X.w) X.A (eval a X.env) (fun v s₁ => wpAny (model X.prog X.w) X.A (eval b X.env) (fun u s₂ => wpAny (model X.prog X.w) X.A (f v u) Q X.xe s₂) X.xe s₁) X.xe s := by
  refine thn (ha pins s σ H _ I h) fun v s1 ⟨x, H1, I1, r1, q1⟩ => ?_
  refine thn (hb pins s1 σ H1 _ I1 q1) fun u s2 ⟨y, H2, I2, r2, q2⟩ => ?_
  exact hf v u s2 x y H2 I2 r1 r2 q2
def tVar (i : Nat) : TE := fun σ H Q => ∃ v, σ[i]? = some (some v) ∧ Q v H
def tC (v : V) : TE := fun _ H Q => Q v H
theorem pe_var {i : Nat} {x : Str} {pos : Pos} (hN : X.N[i]? = some x) (hv : Vis X.env.scope x) (hd : (x == ("__debug__" : Str)) = false := by decide) (hcd : (x == ("__classdict__" : Str)) = false := by decide) : PE X (.Name x pos) (tVar i) := by
  intro pins s σ H Q I h
  obtain ⟨v, e, h⟩ := h
  obtain ⟨m, hn, hl⟩ := I.loc
  obtain ⟨u, r, l⟩ := hl i x v hN e hv
  have fin : EP X pins σ Q u s := ⟨v, H, I, r, h⟩
  rcases l with ⟨hk, hm⟩ | ⟨hk, c, hc, hcell⟩
  · exact wpAny_Name (wpAny_loadName_local I.ok.kind hk hn hm fin) hd
  · rcases hk with hk | hk
    · exact wpAny_Name (wpAny_loadName_cell I.ok.kind hk hc hcell fin) hd
    · exact wpAny_Name (wpAny_loadName_free I.ok.kind hk hc hcell fin hcd) hd
theorem pe_int {i j pos} : PE X (.Constant (.int i) j pos) (tC (.int i)) := fun _ _ _ H _ I h => wpAny_Constant_int ⟨.int i, H, I.tok _, ⟨_, rfl⟩, h⟩
theorem pe_bl {b j pos} : PE X (.Constant (.bool b) j pos) (tC (.bl b)) := fun _ _ _ H _ I h => Constant_bool ⟨.bl b, H, I, rfl, h⟩
theorem pe_non {j pos} : PE X (.Constant .none j pos) (tC .non) := fun _ _ _ H _ I h => Constant_none ⟨.non, H, I, rfl, h⟩
def Gl (X : Cx) (x : Str) : Prop := X.env.kindOf x = some .globalImplicit
theorem ld_glob {E : Value → Shared → Prop} {pins : List (Addr × Obj)} {s : Shared} {σ : St} {H : Hp} {x : Str} {u : Value} {pos : Pos} {Q : Value → Shared → Prop} (I : Inv X pins σ H s) (hg : Gl X x) (hm : X.mg x = some u) (h : Q u s)
    (hd : (x == ("__debug__" : Str)) = false := by decide) : wpAny (model X.prog X.w) X.A (eval (.Name x pos) X.env) Q E s :=
  Calls.Name_function_global I.ok.kind hg (Calls.loadGlobal_global (by rw [I.ok.glob]; exact I.mod.glob.keeps I.bk) hm h) hd
theorem ld_blt {E : Value → Shared → Prop} {pins : List (Addr × Obj)} {s : Shared} {σ : St} {H : Hp} {x : Str} {u : Value} {pos : Pos} {Q : Value → Shared → Prop} (I : Inv X pins σ H s) (hg : Gl X x) (hm : X.mg x = none) (hv : bootBuiltins x = some u) (h : Q u s)
    (hn : x ≠ "__name__" := by decide) (hd : (x == ("__debug__" : Str)) = false := by decide) : wpAny (model X.prog X.w) X.A (eval (.Name x pos) X.env) Q E s := by
  obtain ⟨mb, h1, h2⟩ := I.mod.blt
  exact Calls.Name_function_global I.ok.kind hg (Calls.loadGlobal_builtin (by rw [I.ok.glob]; exact I.mod.glob.keeps I.bk) hm (by rw [I.ok.blt]; exact h1.keeps I.bk) ((h2 x hn).trans hv) h) hd
theorem pe_glob {x : Str} {v : V} {u : Value} {pos : Pos} (hg : Gl X x) (hm : X.mg x = some u) (r : RelV v u) (hd : (x == ("__debug__" : Str)) = false := by decide) : PE X (.Name x pos) (tC v) :=
  fun _ _ _ H _ I h => ld_glob I hg hm ⟨v, H, I, r, h⟩ hd
def t2I (ta tb : TE) (k : Int → Int → Hp → Prop) : St → Hp → Prop := fun σ H => ta σ H fun x H1 => tb σ H1 fun y H2 => ∃ i j, x = .int i ∧ y = .int j ∧ k i j H2
variable {a b : Expr} {ta tb : TE} {pos : Pos}
def PC (X : Cx) (op : CmpOp) (a b : Expr) (t : TE) : Prop :=
  ∀ (pins : List (Addr × Obj)) (s : Shared) (σ : St) (H : Hp) (Q : VK), Inv X pins σ H s → t σ H Q →
    wpAny (model X.prog X.w) X.A (eval a X.env) (fun v s₁ => wpAny (model X.prog X.w) X.A (eval b X.env) (fun u s₂ => wpAny (model X.prog X.w) X.A (compareOp op v u) (EP X pins σ Q) X.xe s₂) X.xe s₁) X.xe s
theorem nobehind (b : Expr) {op : CmpOp} (h : op ≠ .In) (h2 : op ≠ .NotIn) : behindInMarks op b = false := by
  have e1 : (op == CmpOp.In) = false := by cases op <;> first | rfl | exact absurd rfl h
  have e2 : (op == CmpOp.NotIn) = false := by cases op <;> first | rfl | exact absurd rfl h2
  cases b <;> simp [behindInMarks, e1, e2]
def tCmp (p : Int → Int → Bool) (ta tb : TE) : TE := fun σ H Q => t2I ta tb (fun i j H2 => Q (.bl (p i j)) H2) σ H
abbrev tLt : TE → TE → TE := tCmp fun i j => decide (i < j)
abbrev tLe : TE → TE → TE := tCmp fun i j => decide (i ≤ j)
abbrev tGt : TE → TE → TE := tCmp fun i j => decide (j < i)
abbrev tGe : TE → TE → TE := tCmp fun i j => decide (j ≤ i)
abbrev tEqI : TE → TE → TE := tCmp fun i j => decide (i = j)
abbrev tNeI : TE → TE → TE := tCmp fun i j => !decide (i = j)
theorem pc_int {op : CmpOp} {p : Int → Int → Bool} (ha : PE X a ta) (hb : PE X b tb)
    (rule : ∀ (i j : Int) (t u : Tok) (Q : Value → Shared → Prop) (s : Shared), Q (.bool (p i j)) s → wpAny (model X.prog X.w) X.A (compareOp op (.int i t) (.int j u)) Q X.xe s) : PC X op a b (tCmp p ta tb) := by
  intro pins s σ H Q I h
  refine bin ha hb I h fun v u s2 x y H2 I2 rx ry q => ?_
  obtain ⟨i, j, rfl, rfl, q⟩ := q
  obtain ⟨t, rfl⟩ := rx
  obtain ⟨t', rfl⟩ := ry
  exact rule i j t t' _ s2 ⟨.bl _, H2, I2, rfl, q⟩
theorem pc_lt (ha : PE X a ta) (hb : PE X b tb) : PC X .Lt a b (tLt ta tb) := pc_int ha hb fun _ _ _ _ _ _ h => lt_int h
theorem pc_le (ha : PE X a ta) (hb : PE X b tb) : PC X .LtE a b (tLe ta tb) := pc_int ha hb fun _ _ _ _ _ _ h => le_int h
theorem pc_gt (ha : PE X a ta) (hb : PE X b tb) : PC X .Gt a b (tGt ta tb) := pc_int ha hb fun _ _ _ _ _ _ h => gt_int h
theorem pc_ge (ha : PE X a ta) (hb : PE X b tb) : PC X .GtE a b (tGe ta tb) := pc_int ha hb fun _ _ _ _ _ _ h => ge_int h
theorem pc_eqI (ha : PE X a ta) (hb : PE X b tb) : PC X .Eq a b (tEqI ta tb) := pc_int ha hb fun _ _ _ _ _ _ h => eq_int (by rw [Bool.beq_eq_decide_eq]; exact h)
theorem pc_neI (ha : PE X a ta) (hb : PE X b tb) : PC X .NotEq a b (tNeI ta tb) := pc_int ha hb fun _ _ _ _ _ _ h => ne_int (by rw [bne, Bool.beq_eq_decide_eq]; exact h)
def tIsN (ta : TE) : TE := fun σ H Q => ta σ H fun x H1 => Q (.bl (decide (x = .non))) H1
theorem RelV.none_iff {x : V} {v : Value} (r : RelV x v) : (v == Value.none) = decide (x = .non) := by
  cases x with
  | non => cases r; rfl
  | bl _ => cases r; rfl
  | int _ => obtain ⟨t, rfl⟩ := r; rfl
  | str _ => obtain ⟨t, rfl⟩ := r; rfl
  | byt _ => obtain ⟨t, rfl⟩ := r; rfl
  | flt _ => obtain ⟨t, rfl⟩ := r; rfl
  | ref _ => cases r; rfl
  | ty _ => cases r; rfl
theorem pc_isN {j pos'} (ha : PE X a ta) : PC X .Is a (.Constant .none j pos') (tIsN ta) := by
  intro pins s σ H Q I h
  refine thn (ha pins s σ H _ I h) fun v s1 ⟨x, H1, I1, r1, q1⟩ => ?_
  exact Constant_none (is_none_gen ⟨.bl _, H1, I1, by rw [r1.none_iff]; rfl, q1⟩)
def tB (t : TE) : TT := fun σ H Q => t σ H fun x H1 => ∃ c, x = .bl c ∧ Q c H1
theorem pe_cmp {op : CmpOp} {t : TE} (h : PC X op a b t) (h1 : behindInMarks op b = false := by first | exact nobehind _ (by decide) (by decide) | rfl) : PE X (.Compare a [op] [b] pos) t := fun pins s σ H Q I hw => wpAny_Compare1 (h pins s σ H Q I hw) h1
theorem pt_cmp {op : CmpOp} {t : TE} (h : PC X op a b t) (h1 : behindInMarks op b = false := by first | exact nobehind _ (by decide) (by decide) | rfl) : PT X (.Compare a [op] [b] pos) (tB t) := by
  intro pins s σ H Q I hw
  refine wpAny_isTrue_Compare1 (thn (h pins s σ H _ I hw) fun v s1 h1 => thn h1 fun u s2 h2 => thn h2 fun c s3 ⟨x, H1, I1, r1, q1⟩ => ?_) h1
  obtain ⟨d, rfl, q⟩ := q1
  cases r1
  exact wpAny_truthy_bool ⟨H1, I1, q⟩
theorem pt_val {e : Expr} {t : TE} (h : PE X e t) (he : ∀ whole, isTrue e X.env whole = (do let v ← whole; standAt e.pos; holding [v] (truthy v)) := by intro _; rfl) : PT X e (tB t) := by
  intro pins s σ H Q I hw
  refine isTrue_plain (thn (h pins s σ H _ I hw) fun v s1 ⟨x, H1, I1, r1, q1⟩ => ?_) (he _)
  obtain ⟨d, rfl, q⟩ := q1
  cases r1
  exact wpAny_truthy_bool ⟨H1, I1, q⟩
variable {tA tB' : TT} {rest : List Expr}
def tOr (t u : TT) : TT := fun σ H Q => t σ H fun c H1 => if c = true then Q true H1 else u σ H1 Q
def tNot (t : TT) : TT := fun σ H Q => t σ H fun c H1 => Q (!c) H1
theorem pw_or1 (ha : PT X a tA) : PW X (.BoolOp .Or [a] pos) tA := by
  intro wh pins s σ H Q I h
  refine isTrue_or (thn (ha pins s σ H Q I h) fun c s1 e => ?_)
  cases c with
  | false => exact isTrue_or_nil e
  | true => exact e
theorem pw_or (ha : PT X a tA) (hb : PW X (.BoolOp .Or (b :: rest) pos) tB') : PW X (.BoolOp .Or (a :: b :: rest) pos) (tOr tA tB') := by
  intro wh pins s σ H Q I h
  refine isTrue_or (thn (ha pins s σ H _ I h) fun c s1 ⟨H1, I1, q1⟩ => ?_)
  cases c with
  | true => exact ⟨H1, I1, q1⟩
  | false => exact hb wh pins s1 σ H1 Q I1 q1
theorem pt_not (ha : PT X a tA) : PT X (.UnaryOp .Not a pos) (tNot tA) := by
  intro pins s σ H Q I h
  exact isTrue_not (ha pins s σ H (fun c H1 => Q (!c) H1) I h)
def tAndV (ta tb : TE) : TE := fun σ H Q => ta σ H fun x H1 => ∃ c, x = .bl c ∧ if c = true then tb σ H1 Q else Q (.bl false) H1
theorem pe_one {op} {t : TE} (h : PE X a t) : PE X (.BoolOp op [a] pos) t := fun pins s σ H Q I hw => BoolOp_one (h pins s σ H Q I hw)
theorem pe_and (ha : PE X a ta) (hb : PE X (.BoolOp .And (b :: rest) pos) tb) : PE X (.BoolOp .And (a :: b :: rest) pos) (tAndV ta tb) := by
  intro pins s σ H Q I h
  refine BoolOp_and (thn (ha pins s σ H _ I h) fun v s1 ⟨x, H1, I1, r1, q1⟩ => ?_)
  obtain ⟨c, rfl, q1⟩ := q1
  cases r1
  refine wpAny_truthy_bool ?_
  cases c with
  | true => exact hb pins s1 σ H1 Q I1 q1
  | false => exact ⟨.bl false, H1, I1, rfl, q1⟩
def tIf (t : TT) (ta tb : TE) : TE := fun σ H Q => t σ H fun c H1 => if c = true then ta σ H1 Q else tb σ H1 Q
theorem pe_ifExp {c : Expr} (hc : PT X c tA) (ha : PE X a ta) (hb : PE X b tb) : PE X (.IfExp c a b pos) (tIf tA ta tb) := by
  intro pins s σ H Q I h
  refine wpAny_IfExp (thn (hc pins s σ H _ I h) fun d s1 ⟨H1, I1, q1⟩ => ?_)
  cases d with
  | true => exact ha pins s1 σ H1 Q I1 q1
  | false => exact hb pins s1 σ H1 Q I1 q1
end
end L2
namespace L2
open PySem PySem.Spec PyProof.Rows
def SqL (K : PySem.W.Frag) (H : Hp) (a : Addr) (xs : List V) : Prop :=
  Rd H a (.lst xs) ∨
    ∃ (o : Obj) (its : Array Value) (n : Nat), K.lookup a = some o ∧ o.cls = .type "list" ∧ o.dict = none ∧ o.data = .seq its n ∧ its.size ≤ sizeLine ∧ Vals xs its.toList
def SqT (K : PySem.W.Frag) (H : Hp) (a : Addr) (xs : List V) : Prop :=
  Rd H a (.tup xs) ∨
    ∃ (o : Obj) (its : Array Value) (n : Nat), K.lookup a = some o ∧ o.cls = .type "tuple" ∧ o.data = .seq its n ∧ its.size ≤ sizeLine ∧ Vals xs its.toList
def absV : Value → Option V
  | .none => some .non
  | .bool b => some (.bl b)
  | .int i _ => some (.int i)
  | .str x _ => some (.str x)
  | .bytes b _ => some (.byt b)
  | .float b _ => some (.flt b)
  | .ref a => some (.ref a)
  | .type n => some (.ty n)
  | _ => none
theorem RelV.abs {x : V} {u : Value} (r : RelV x u) : absV u = some x := by
  cases x with
  | non => cases r; rfl
  | bl _ => cases r; rfl
  | int _ => obtain ⟨t, rfl⟩ := r; rfl
  | str _ => obtain ⟨t, rfl⟩ := r; rfl
  | byt _ => obtain ⟨t, rfl⟩ := r; rfl
  | flt _ => obtain ⟨t, rfl⟩ := r; rfl
  | ref _ => cases r; rfl
  | ty _ => cases r; rfl
theorem RelV.inj {x y : V} {u : Value} (r : RelV x u) (q : RelV y u) : x = y := Option.some.inj (r.abs.symm.trans q.abs)
theorem Vals.inj : ∀ {xs ys : List V} {us : List Value}, Vals xs us → Vals ys us → xs = ys
  | _, _, _, .nil, .nil => rfl
  | _, _, _, .cons r t, .cons r' t' => by rw [r.inj r', Vals.inj t t']
section
variable {X : Cx} {pins : List (Addr × Obj)} {σ : St} {H : Hp} {s : Shared} {a : Addr} {xs ys : List V}
theorem SqL.of {K : PySem.W.Frag} (h : H a = some (.lst xs)) : SqL K H a xs := .inl (.inl h)
theorem SqT.of {K : PySem.W.Frag} (h : H a = some (.tup xs)) : SqT K H a xs := .inl (.inl h)
theorem Inv.list (I : Inv X pins σ H s) (h : SqL X.K H a xs) : ∃ its : List Value, Vals xs its ∧ PlainL s.heap a its.toArray ∧ xs.length ≤ sizeLine := by
  rcases h with h | ⟨o, its, n, hk, hc, hd, hs, hz, r⟩
  · obtain ⟨z, its, n, r, e⟩ := h.ok I.hok
    exact ⟨its, r, ⟨_, n, e, rfl, rfl, rfl⟩, z⟩
  · refine ⟨its.toList, r, ⟨o, n, I.kIn a o hk, hc, hd, by simpa using hs⟩, ?_⟩
    have e := r.length
    simp only [Array.length_toList] at e
    omega
theorem Inv.tuple (I : Inv X pins σ H s) (h : SqT X.K H a xs) : ∃ its : List Value, Vals xs its ∧ IsTup s.heap a its.toArray ∧ xs.length ≤ sizeLine := by
  rcases h with h | ⟨o, its, n, hk, hc, hs, hz, r⟩
  · obtain ⟨z, its, r, p⟩ := h.ok I.hok
    exact ⟨its, r, p, z⟩
  · refine ⟨its.toList, r, ⟨o, I.kIn a o hk, hc, n, by simpa using hs⟩, ?_⟩
    have e := r.length
    simp only [Array.length_toList] at e
    omega
theorem Inv.list_inj (I : Inv X pins σ H s) (h : SqL X.K H a xs) (h' : SqL X.K H a ys) : xs = ys := by
  obtain ⟨its, r, ⟨o, n, e, _, _, d⟩, _⟩ := I.list h
  obtain ⟨its', r', ⟨o', n', e', _, _, d'⟩, _⟩ := I.list h'
  rw [e] at e'; cases e'
  rw [d] at d'
  injection d' with d1 _
  have : its = its' := by simpa using congrArg Array.toList d1
  subst this
  exact r.inj r'
end
abbrev Cx.wish (X : Cx) (E : Value → Shared → Prop) : Cx := { X with xe := E }
abbrev Cx.nox (X : Cx) : Cx := X.wish fun _ _ => False
theorem Cx.Ok.wish {X : Cx} (ok : X.Ok) (E : Value → Shared → Prop) : (X.wish E).Ok :=
  ⟨ok.mod, ok.kind, ok.glob, ok.blt, ok.above, ok.inj, ok.has, ok.cab, ok.hd, ok.frames, ok.stk, ok.exf, ok.bs, ok.bsz, ok.noex, ok.exfs, ok.funs, ok.frf⟩
theorem Cx.Ok.unwish {X : Cx} {E : Value → Shared → Prop} (ok : (X.wish E).Ok) : X.Ok :=
  ⟨ok.mod, ok.kind, ok.glob, ok.blt, ok.above, ok.inj, ok.has, ok.cab, ok.hd, ok.frames, ok.stk, ok.exf, ok.bs, ok.bsz, ok.noex, ok.exfs, ok.funs, ok.frf⟩
section
variable {X : Cx} {pins : List (Addr × Obj)} {σ : St} {H : Hp} {s : Shared} {E : Value → Shared → Prop}
theorem Inv.wish (I : Inv X pins σ H s) (E : Value → Shared → Prop) : Inv (X.wish E) pins σ H s := ⟨I.ok.wish E, I.os, I.bare, I.base, I.loc, I.cell, I.free, I.freeC, I.pin, I.hok, I.len⟩
theorem Inv.unwish (I : Inv (X.wish E) pins σ H s) : Inv X pins σ H s := ⟨I.ok.unwish, I.os, I.bare, I.base, I.loc, I.cell, I.free, I.freeC, I.pin, I.hok, I.len⟩
theorem SP.unwish {D : Ends} {f : Flow} {s' : Shared} (h : SP (X.wish E) pins D f s') : SP X pins D f s' := by
  cases f with
  | next => obtain ⟨σ', H', I, q⟩ := h; exact ⟨σ', H', I.unwish, q⟩
  | brk => obtain ⟨σ', H', I, q⟩ := h; exact ⟨σ', H', I.unwish, q⟩
  | cont => obtain ⟨σ', H', I, q⟩ := h; exact ⟨σ', H', I.unwish, q⟩
  | ret u => obtain ⟨v, σ', H', I, r, q⟩ := h; exact ⟨v, σ', H', I.unwish, r, q⟩
theorem PSs.nox {st : List Stmt} {t : TS} (h : PSs X.nox st t) : PSs X st t := fun pins s σ H D I hw =>
  wpAny_mono (h pins s σ H D (I.wish _) hw) (fun _ _ q => q.unwish) fun _ _ z => False.elim z
end
section
variable {X : Cx} {st : Stmt} {rest : List Stmt} {t u : TS} {e : Expr} {te : TE} {pos : Pos}
def tNext : TS := fun D σ H => D.nx σ H
def tSeq (t u : TS) : TS := fun D σ H => t { D with nx := u D } σ H
theorem pss_nil : PSs X [] tNext := fun _ _ σ H _ I h => wpAny_execs_nil ⟨σ, H, I, h⟩
theorem pss_cons (h1 : PS X st t) (h2 : PSs X rest u) : PSs X (st :: rest) (tSeq t u) := by
  intro pins s σ H D I h
  refine wpAny_execs_cons (thn (h1 pins s σ H { D with nx := u D } I h) fun f s1 q => ?_)
  cases f with
  | next =>
    obtain ⟨σ', H', I', q⟩ := q
    exact h2 pins s1 σ' H' D I' q
  | ret v => exact q
  | brk => exact q
  | cont => exact q
theorem pss_one (h1 : PS X st t) : PSs X [st] t := by
  intro pins s σ H D I h
  refine wpAny_execs_cons (thn (h1 pins s σ H D I h) fun f s1 q => ?_)
  cases f with
  | next => exact wpAny_execs_nil q
  | ret v => exact q
  | brk => exact q
  | cont => exact q
theorem Inv.quiet {pins : List (Addr × Obj)} {σ : St} {H : Hp} {s : Shared} (I : Inv X pins σ H s) : interactive X.env = false := by simp [interactive, I.ok.kind]
def tDrop (te : TE) : TS := fun D σ H => te σ H fun _ H1 => D.nx σ H1
theorem ps_expr (he : PE X e te) (hs : swapsWith e none pos.line X.env = pure false := by rfl) : PS X (.Expr e pos) (tDrop te) := by
  intro pins s σ H D I h
  exact wpAny_Expr_any (thn (he pins s σ H _ I h) fun v s1 ⟨x, H1, I1, r1, q1⟩ => ⟨σ, H1, I1, q1⟩) I.quiet hs
def tRet (te : TE) : TS := fun D σ H => te σ H D.rt
theorem ps_ret (he : PE X e te) : PS X (.Return (some e) pos) (tRet te) := by
  intro pins s σ H D I h
  exact wpAny_Return_some (thn (he pins s σ H _ I h) fun v s1 ⟨x, H1, I1, r1, q1⟩ => ⟨x, σ, H1, I1, r1, q1⟩)
def tIfS (c : TT) (t u : TS) : TS := fun D σ H => c σ H fun b H1 => if b = true then t D σ H1 else u D σ H1
theorem ps_if {c : Expr} {a b : List Stmt} {tc : TT} (hc : PT X c tc) (ha : PSs X a t) (hb : PSs X b u) : PS X (.If c a b pos) (tIfS tc t u) := by
  intro pins s σ H D I h
  refine wpAny_If (thn (hc pins s σ H _ I h) fun d s1 ⟨H1, I1, q1⟩ => ?_)
  cases d with
  | true => exact ha pins s1 σ H1 D I1 q1
  | false => exact hb pins s1 σ H1 D I1 q1
end
abbrev TG := V → St → Hp → (St → Hp → Prop) → Prop
abbrev TGs := List V → St → Hp → (St → Hp → Prop) → Prop
def PG (X : Cx) (target : Expr) (t : TG) : Prop :=
  ∀ (pins : List (Addr × Obj)) (s : Shared) (σ : St) (H : Hp) (v : V) (u : Value) (Q : St → Hp → Prop), Inv X pins σ H s → RelV v u → t v σ H Q →
    wpAny (model X.prog X.w) X.A (assign target X.env u) (fun _ s' => ∃ σ' H', Inv X pins σ' H' s' ∧ Q σ' H') X.xe s
def PGs (X : Cx) (ts : List Expr) (t : TGs) : Prop :=
  ∀ (pins : List (Addr × Obj)) (s : Shared) (σ : St) (H : Hp) (vs : List V) (us : List Value) (Q : St → Hp → Prop), Inv X pins σ H s → Vals vs us → t vs σ H Q →
    wpAny (model X.prog X.w) X.A (assignInOrder ((assignEach ts X.env).map (·.2)) us) (fun _ s' => ∃ σ' H', Inv X pins σ' H' s' ∧ Q σ' H') X.xe s
section
variable {X : Cx} {pos : Pos}
def gName (i : Nat) : TG := fun v σ H Q => Q (σ.set i (some v)) H
theorem pg_name {i : Nat} {x : Str} (hN : X.N.Nodup) (hi : X.N[i]? = some x) (hx : Loc X.env.scope x) (hf : X.fn x = true ∨ X.env.scope.names.lookup x = some .local := by first | exact .inl rfl | exact .inr rfl | assumption) : PG X (.Name x pos) (gName i) := by
  intro pins s σ H v u Q I r h
  exact wpAny_assign_Name (store_ok I hN hi hx r (fun s' I' => ⟨_, H, I', h⟩) hf)
def gNil : TGs := fun vs σ H Q => vs = [] ∧ Q σ H
def gCons (t : TG) (u : TGs) : TGs := fun vs σ H Q => ∃ v r, vs = v :: r ∧ t v σ H fun σ' H' => u r σ' H' Q
theorem pgs_nil : PGs X [] gNil := by
  intro pins s σ H vs us Q I r h
  obtain ⟨e, h⟩ := h
  subst e
  cases r
  exact assignInOrder_nil ⟨σ, H, I, h⟩
theorem pgs_cons {e : Expr} {es : List Expr} {t : TG} {u : TGs} (h1 : PG X e t) (h2 : PGs X es u)
    (hs : (assignEach (e :: es) X.env).map (·.2) = assign e X.env :: (assignEach es X.env).map (·.2) := by rfl) : PGs X (e :: es) (gCons t u) := by
  intro pins s σ H vs us Q I r h
  obtain ⟨v, vr, e1, h⟩ := h
  subst e1
  cases r with
  | cons r rr =>
    rw [hs]
    refine assignInOrder_cons (thn (h1 pins s σ H _ _ _ I r h) fun _ s1 ⟨σ1, H1, I1, q1⟩ => ?_)
    exact h2 pins s1 σ1 H1 _ _ Q I1 rr q1
def gTup (K : PySem.W.Frag) (n : Nat) (t : TGs) : TG := fun v σ H Q => ∃ a xs, v = .ref a ∧ SqT K H a xs ∧ xs.length = n ∧ t xs σ H Q
theorem pg_tup {es : List Expr} {k : Nat} {t : TGs} {n : Nat} (hc : X.calm = true) (h : PGs X es t)
    (hn : (assignEach es X.env).length = n := by rfl) (hst : (assignEach es X.env).findIdx? (·.1) = none := by rfl) : PG X (.Tuple es k pos) (gTup X.K n t) := by
  intro pins s σ H v u Q I r hw
  obtain ⟨a, xs, e1, hq, hl, hw⟩ := hw
  subst e1
  cases r
  obtain ⟨its, rv, ht, hz⟩ := I.tuple hq
  refine assign_Tuple_tuple (I.ok.hd hc) ht (by simp [hn, ← hl, rv.length]) hst fun h' hx => ?_
  have I1 : Inv X pins σ H { s with heap := h' } := I.kept (t' := s.toks) fun b o e => hx b o (Nat.ne_of_lt (Heap.lt_size e)) e
  exact h pins _ σ H xs _ Q I1 (by simpa using rv) hw
def tAsg (te : TE) (g : TG) : TS := fun D σ H => te σ H fun x H1 => g x σ H1 D.nx
theorem ps_set {i : Nat} {x : Str} {e : Expr} {te : TE} {pos' : Pos} (hN : X.N.Nodup) (hi : X.N[i]? = some x) (hx : Loc X.env.scope x) (he : PE X e te) (hs : swapsWith e (some (.Name x pos')) pos.line X.env = pure false := by rfl) (hf : X.fn x = true ∨ X.env.scope.names.lookup x = some .local := by first | exact .inl rfl | exact .inr rfl | assumption) :
    PS X (.Assign [.Name x pos'] e pos) (tAsg te (gName i)) := by
  intro pins s σ H D I h
  refine wpAny_Assign_Name (thn (he pins s σ H _ I h) fun v s1 ⟨y, H1, I1, r1, q1⟩ => ?_) hs
  exact store_ok I1 hN hi hx r1 (fun s2 I2 => ⟨_, H1, I2, q1⟩) hf
end
section
variable {X : Cx} {pos : Pos}
def tWhile (c : TT) (tb : TS) : TS := fun D σ H => ∃ W : Nat → St → Hp → Prop, (∃ m, W m σ H) ∧ ∀ m σ H, W m σ H →
  c σ H fun b H1 => if b = true then ∃ N : St → Hp → Prop, (∀ σ' H', N σ' H' → ∃ m', m' < m ∧ W m' σ' H') ∧ tb { D with nx := N, ct := N, bk := D.nx } σ H1 else D.nx σ H1
theorem ps_while {c : Expr} {body : List Stmt} {tc : TT} {tb : TS} (hp : PassesOwn (model X.prog X.w) X.A X.env X.xe) (hc : PT X c tc) (hb : PSs X body tb) : PS X (.While c body [] pos) (tWhile tc tb) := by
  intro pins s σ H D I h
  obtain ⟨W, ⟨m0, w0⟩, turn⟩ := h
  refine wpAny_While (codeAny_whileLoop (fun n s' => ∃ σ' H', Inv X pins σ' H' s' ∧ W n σ' H') ?_ m0 ⟨σ, H, I, w0⟩)
  rintro n s1 ⟨σ1, H1, I1, w1⟩
  refine wpAny_passesOwn hp (thn (hc pins s1 σ1 H1 _ I1 (turn n σ1 H1 w1)) fun b s2 ⟨H2, I2, q2⟩ => ?_)
  cases b with
  | true =>
    obtain ⟨N, hN, q2⟩ := q2
    rw [if_pos rfl]
    refine wpAny_passesOwn hp (thn (hb pins s2 σ1 H2 _ I2 q2) fun f s3 q3 => ?_)
    cases f with
    | next =>
      obtain ⟨σ3, H3, I3, n3⟩ := q3
      obtain ⟨m', hm, w3⟩ := hN σ3 H3 n3
      exact ⟨m', hm, σ3, H3, I3, w3⟩
    | cont =>
      obtain ⟨σ3, H3, I3, n3⟩ := q3
      obtain ⟨m', hm, w3⟩ := hN σ3 H3 n3
      exact ⟨m', hm, σ3, H3, I3, w3⟩
    | brk => exact q3
    | ret v => exact q3
  | false =>
    rw [if_neg Bool.false_ne_true]
    exact wpAny_execs_nil ⟨σ1, H2, I2, q2⟩
end
structure It where
  go : Nat → Hp → Prop
  yld : Nat → Hp → V → Hp → Prop
  stop : Nat → Hp → Prop
def FpOk (X : Cx) (pins : List (Addr × Obj)) (H : Hp) (b : Addr) : Prop :=
  H b = none ∧ b ≠ X.env.locals ∧ b ∉ X.fs ∧ (b ∈ X.ex ∨ X.s_0.heap.objs.size ≤ b) ∧ (∀ x c, X.env.cells.lookup x = some c → c ≠ b) ∧ ∀ p ∈ X.pn ++ pins, p.1 ≠ b
theorem Inv.fpOk {X : Cx} {pins : List (Addr × Obj)} {σ : St} {H H' : Hp} {s : Shared} {b : Addr} (I : Inv X pins σ H s) (hb : s.heap.objs.size ≤ b) (hn : H' b = none) : FpOk X pins H' b := by
  refine ⟨hn, Nat.ne_of_gt (Nat.lt_of_lt_of_le I.lt hb), I.nofs hb, .inr (Nat.le_trans I.sz hb), fun x c e z => ?_, fun p hp z => ?_⟩
  · obtain ⟨v, q⟩ := I.cell x c e
    exact absurd (Nat.lt_of_lt_of_le q.lt (by rw [z]; exact hb)) (Nat.lt_irrefl _)
  · exact absurd (Nat.lt_of_lt_of_le (Heap.lt_size (I.pin p hp).1) (by rw [z]; exact hb)) (Nat.lt_irrefl _)
structure Turn (P : Program) (w : World) (K : PySem.W.Frag) (tg : Expr) (J : It) (fp : List Addr) (it : Addr) (tn : Nat → Heap → Prop) : Prop where
  mem : it ∈ fp
  obj : ∀ i h, tn i h → ∀ b ∈ fp, ∃ o, h.get? b = some o ∧ ∀ v, o.data ≠ .cell v
  keep : ∀ i h h', tn i h → (∀ b ∈ fp, ∀ o, h.get? b = some o → h'.get? b = some o) → tn i h'
  item : ∀ (X : Cx), X.prog = P → X.w = w → X.K = K → X.calm = true → ∀ (i : Nat) (pins : List (Addr × Obj)) (s : Shared) (σ : St) (H : Hp) (E : Value → Shared → Prop), Inv X pins σ H s → (∀ b ∈ fp, FpOk X pins H b) → tn i s.heap → J.go i H →
    wpAny (model P w) X.A (pyNext (.ref it)) (fun r s1 => ∃ u, r = some u ∧
      wpAny (model P w) X.A (letOwnedTupleGo tg (.ref it) u) (fun _ s2 => ∃ x H', Inv X pins σ H' s2 ∧ RelV x u ∧ J.yld i H x H' ∧ tn (i + 1) s2.heap ∧ ∀ b ∈ fp, H' b = none) E s1) E s
  done : ∀ (X : Cx), X.prog = P → X.w = w → X.K = K → X.calm = true → ∀ (i : Nat) (pins : List (Addr × Obj)) (s : Shared) (σ : St) (H : Hp) (E : Value → Shared → Prop), Inv X pins σ H s → (∀ b ∈ fp, FpOk X pins H b) → tn i s.heap → J.stop i H →
    wpAny (model P w) X.A (pyNext (.ref it)) (fun r s1 => r = none ∧ Inv X pins σ H s1) E s
  self : ∀ (A : Around) (i : Nat) (s : Shared) (Q : Value → Shared → Prop) (E : Value → Shared → Prop), tn i s.heap → Q (.ref it) s → wpAny (model P w) A (pyIter (.ref it)) Q E s
abbrev TI := St → Hp → (It → Hp → Prop) → Prop
def PIE (X : Cx) (pins : List (Addr × Obj)) (σ : St) (tg : Expr) (R : It → Hp → Prop) (itv : Value) (s2 : Shared) : Prop :=
  ∃ (it : Addr) (fp : List Addr) (tn : Nat → Heap → Prop) (J : It) (H' : Hp), itv = .ref it ∧ Inv X pins σ H' s2 ∧ Turn X.prog X.w X.K tg J fp it tn ∧ tn 0 s2.heap ∧ (∀ b ∈ fp, FpOk X pins H' b) ∧ R J H'
def PI (X : Cx) (tg iter : Expr) (wi : TI) : Prop :=
  ∀ (pins : List (Addr × Obj)) (s : Shared) (σ : St) (H : Hp) (R : It → Hp → Prop), Inv X pins σ H s → wi σ H R →
    wpAny (model X.prog X.w) X.A (eval iter X.env) (fun v s1 => wpAny (model X.prog X.w) X.A (pyIter v) (PIE X pins σ tg R) X.xe s1) X.xe s
theorem go_of {M : Model} {A : Around} {E : Value → Shared → Prop} {s : Shared} {tg : Expr} {it : Addr} {u : Value} {o : Obj} {n : String} {vs : Array Value} {Q : Unit → Shared → Prop} (ho : s.heap.get? it = some o) (hc : o.cls = .type n) (hd : o.data = .fields vs)
    (hn : ["enumerate", "zip", "dict_itemiterator", "dict_reverseitemiterator", "odict_iterator", "itertools.zip_longest", "itertools.pairwise"].contains n = false) (hQ : Q () s) : wpAny M A (letOwnedTupleGo tg (.ref it) u) Q E s := by
  unfold letOwnedTupleGo
  cases tg <;> first
    | exact wpAny_pure hQ
    | (cases u <;> first
        | exact wpAny_pure hQ
        | (refine wpAny_bind (wpAny_load ho ?_)
           rw [hc, hd]
           show wpAny M A (if (["enumerate", "zip", "dict_itemiterator", "dict_reverseitemiterator", "odict_iterator", "itertools.zip_longest", "itertools.pairwise"].contains n && vs[0]? == some (rawInt _)) = true then _ else _) Q E s
           rw [if_neg (by intro h; rw [hn, Bool.false_and] at h; cases h)]
           exact wpAny_pure hQ))
def Itl (K : PySem.W.Frag) (a : Addr) : It :=
  ⟨fun i H => ∃ xs x, SqL K H a xs ∧ xs[i]? = some x, fun i H x H' => H' = H ∧ ∀ xs, SqL K H a xs → xs[i]? = some x, fun i H => ∃ xs, SqL K H a xs ∧ xs.length ≤ i⟩
def Itr (lo : Int) (n : Nat) : It := ⟨fun i _ => i < n, fun i H x H' => H' = H ∧ x = .int (lo + i), fun i _ => n ≤ i⟩
theorem turn_list {P : Program} {w : World} {K : PySem.W.Frag} {tg : Expr} (a it : Addr) : Turn P w K tg (Itl K a) [it] it (fun i h => h.IsListIter it a i) where
  mem := by simp
  obj := fun i h st b hb => by
    have e : b = it := by simpa using hb
    subst e
    obtain ⟨o, e, c, d⟩ := st
    exact ⟨o, e, fun v z => by rw [d] at z; cases z⟩
  keep := fun i h h' st k => st.at fun o e => k it (by simp) o e
  item := by
    intro X hP hw hK hc i pins s σ H E I hf st hg
    subst hP hw hK
    obtain ⟨xs, x, hq, hx⟩ := hg
    obtain ⟨its, rv, p, hz⟩ := I.list hq
    obtain ⟨u, hu, ru⟩ := rv.get hx
    obtain ⟨f0, f1, f2, f3, f4, f5⟩ := hf it (by simp)
    refine wpAny_pyNext_list_item st p.isList (x := u) (by simpa using hu) fun h' st' sb => ?_
    have I1 : Inv X pins σ H { s with heap := h' } := I.turned (t' := s.toks) (fun b o hb e => (sb.2 b hb).trans e) f0 f1 f3 f4 f5
    obtain ⟨o, e, c, d⟩ := id st'
    exact ⟨u, rfl, go_of (s := { s with heap := h' }) e c d (by decide) ⟨x, H, I1, ru, ⟨rfl, fun ys hy => by rw [I.list_inj hy hq]; exact hx⟩, st', fun b hb => (hf b hb).1⟩⟩
  done := by
    intro X hP hw hK hc i pins s σ H E I hf st hg
    subst hP hw hK
    obtain ⟨xs, hq, hx⟩ := hg
    obtain ⟨its, rv, p, hz⟩ := I.list hq
    obtain ⟨f0, f1, f2, f3, f4, f5⟩ := hf it (by simp)
    have hl := rv.length
    exact wpAny_pyNext_list_end (I.ok.hd hc) st p.isList (by simp; omega) fun h' eb => ⟨rfl, I.turned (t' := s.toks) (fun b o hb e => eb b o hb e) f0 f1 f3 f4 f5⟩
  self := fun _ _ _ _ _ st h => wpAny_pyIter_listiter st h
theorem turn_range {P : Program} {w : World} {K : PySem.W.Frag} {tg : Expr} (it : Addr) (lo : Int) (n : Nat) : Turn P w K tg (Itr lo n) [it] it (fun i h => IsRangeIter h it (lo + (i : Nat) * 1) ((n : Int) - (i : Nat)) 1) where
  mem := by simp
  obj := fun i h st b hb => by
    have e : b = it := by simpa using hb
    subst e
    exact ⟨_, st, fun v z => by
      have z' : Data.fields _ = Data.cell v := z
      cases z'⟩
  keep := fun i h h' st k => k it (by simp) _ st
  item := by
    intro X hP hw hK hc i pins s σ H E I hf st hg
    subst hP hw hK
    obtain ⟨f0, f1, f2, f3, f4, f5⟩ := hf it (by simp)
    have W := Walks.range (prog := X.prog) (w := X.w) (I.ok.hd hc) it lo 1 n
    refine W.item i s _ _ hg st fun v h' tk hv st' kk => ?_
    obtain ⟨t, rfl⟩ := hv
    have I1 : Inv X pins σ H { s with heap := h', toks := tk } := I.turned (fun b o hb e => kk b o (by simpa using hb) e) f0 f1 f3 f4 f5
    refine ⟨_, rfl, go_of (s := { s with heap := h', toks := tk }) (n := "range_iterator") st' rfl rfl (by decide) ⟨.int (lo + i), H, I1, ⟨t, ?_⟩, ⟨rfl, rfl⟩, st', fun b hb => (hf b hb).1⟩⟩
    rw [Int.mul_one]
  done := by
    intro X hP hw hK hc i pins s σ H E I hf st hg
    subst hP hw hK
    obtain ⟨f0, f1, f2, f3, f4, f5⟩ := hf it (by simp)
    exact wpAny_pyNext_range_end (I.ok.hd hc) st (by have : n ≤ i := hg; omega) fun h' eb => ⟨rfl, I.turned (t' := s.toks) (fun b o hb e => eb b o hb e) f0 f1 f3 f4 f5⟩
  self := fun _ _ _ _ _ st h => wpAny_pyIter_rangeiter st h
end L2
namespace L2
open PySem PySem.Spec PyProof.Rows
section
variable {X : Cx} {tg : Expr}
def iList (K : PySem.W.Frag) (tl : TE) : TI := fun σ H R => tl σ H fun x H1 => ∃ a, x = .ref a ∧ (∃ xs, SqL K H1 a xs) ∧ R (Itl K a) H1
theorem pi_list {l : Expr} {tl : TE} (hl : PE X l tl) : PI X tg l (iList X.K tl) := by
  intro pins s σ H R I h
  refine thn (hl pins s σ H _ I h) fun v s1 ⟨x, H1, I1, r1, q1⟩ => ?_
  obtain ⟨a, e, ⟨xs, hq⟩, q⟩ := q1
  subst e
  cases r1
  obtain ⟨its, rv, p, hz⟩ := I1.list hq
  refine wpAny_pyIter_list p.isList ?_
  refine ⟨s1.heap.objs.size, [s1.heap.objs.size], _, _, H1, rfl, I1.kept (t' := s1.toks) fun b o e => Heap.get?_push_of_some _ e, turn_list a _, ⟨_, Heap.get?_push_size _ rfl, rfl, rfl⟩, fun b hb => ?_, q⟩
  have e : b = s1.heap.objs.size := by simpa using hb
  subst e
  exact I1.fpOk (Nat.le_refl _) (I1.hok.fresh (Nat.le_refl _))
theorem range_it {pins : List (Addr × Obj)} {σ : St} {H : Hp} {s : Shared} {R : It → Hp → Prop} {E : Value → Shared → Prop} {lo hi : Int} {t u v : Tok} {tk : Nat} (I : Inv X pins σ H s) (h1 : -(2 ^ 62) ≤ lo) (h2 : lo < 2 ^ 62) (h3 : -(2 ^ 62) ≤ hi) (h4 : hi < 2 ^ 62)
    (q : R (Itr lo (hi - lo).toNat) H) : wpAny (model X.prog X.w) X.A (pyIter (.ref s.heap.objs.size)) (PIE X pins σ tg R) E { s with heap := s.heap.push { cls := .type "range", data := .fields #[.int lo t, .int hi u, .int 1 v] }, toks := tk } := by
  refine wpAny_pyIter_range (IsRange.new ..) (small_one h1 h2 h3 h4) ?_
  have I1 : Inv X pins σ H { s with heap := s.heap.push { cls := .type "range", data := .fields #[.int lo t, .int hi u, .int 1 v] }, toks := tk } := I.kept fun b o e => Heap.get?_push_of_some _ e
  refine ⟨(s.heap.push { cls := .type "range", data := .fields #[.int lo t, .int hi u, .int 1 v] }).objs.size, [(s.heap.push { cls := .type "range", data := .fields #[.int lo t, .int hi u, .int 1 v] }).objs.size], _, _, H, rfl,
    I1.kept (t' := tk) fun b o e => Heap.get?_push_of_some _ e, turn_range _ lo (hi - lo).toNat, ?_, fun b hb => ?_, q⟩
  · have e1 : lo + ((0 : Nat) : Int) * 1 = lo := by simp
    have e2 : (((hi - lo).toNat : Nat) : Int) - ((0 : Nat) : Int) = Builtin.Range.rangeSize lo hi 1 := by rw [rangeSize_one]; split <;> omega
    show IsRangeIter _ _ (lo + ((0 : Nat) : Int) * 1) ((((hi - lo).toNat : Nat) : Int) - ((0 : Nat) : Int)) 1
    rw [e1, e2]
    exact Heap.get?_push_size _ rfl
  · have e : b = (s.heap.push { cls := .type "range", data := .fields #[.int lo t, .int hi u, .int 1 v] }).objs.size := by simpa using hb
    subst e
    exact I1.fpOk (Nat.le_refl _) (I1.hok.fresh (Nat.le_refl _))
def iRng1 (ta : TA) : TI := fun σ H R => ta σ H fun vs H1 => ∃ j : Int, vs = [.int j] ∧ -(2 ^ 62) ≤ j ∧ j < 2 ^ 62 ∧ R (Itr 0 j.toNat) H1
theorem pi_range1 {a : Expr} {ta : TA} {p pos : Pos} (hg : Gl X "range") (hm : X.mg "range" = none) (ha : PA X [a] ta) (hs : starEach [a] X.env = [(false, eval a X.env)] := by rfl) : PI X tg (.Call (.Name "range" p) [a] [] pos) (iRng1 ta) := by
  intro pins s σ H R I h
  refine Call_ (ld_blt I hg hm boot_range (PyProof.Rows.callWith_type1 (thn (ha pos pins s σ H _ I h) fun us s1 ⟨vs, H1, I1, r1, q1⟩ => ?_) hs rfl))
  obtain ⟨j, e, q1, q2, q⟩ := q1
  subst e
  cases r1 with
  | cons r rr =>
    cases rr
    obtain ⟨t, rfl⟩ := r
    exact call_range_1 (range_it I1 (by omega) (by omega) q1 q2 (by simpa using q))
def tFor (wi : TI) (g : TG) (tb : TS) : TS := fun D σ H => wi σ H fun J H1 => ∃ W : Nat → Nat → St → Hp → Prop, (∃ m, W 0 m σ H1) ∧ ∀ i m σ H, W i m σ H →
  (J.stop i H ∧ D.nx σ H) ∨ (J.go i H ∧ ∃ N : St → Hp → Prop, (∀ σ' H', N σ' H' → ∃ m', m' < m ∧ W (i + 1) m' σ' H') ∧ ∀ x H', J.yld i H x H' → g x σ H' fun σ2 H2 => tb { D with nx := N, ct := N, bk := D.nx } σ2 H2)
def pinsAt (fp : List Addr) (h : Heap) : List (Addr × Obj) := fp.filterMap fun b => (h.get? b).map fun o => (b, o)
theorem mem_pinsAt {fp : List Addr} {h : Heap} {b : Addr} {o : Obj} (hb : b ∈ fp) (e : h.get? b = some o) : (b, o) ∈ pinsAt fp h := List.mem_filterMap.mpr ⟨b, hb, by rw [e]; rfl⟩
theorem of_pinsAt {fp : List Addr} {h : Heap} {p : Addr × Obj} (hp : p ∈ pinsAt fp h) : p.1 ∈ fp ∧ h.get? p.1 = some p.2 := by
  obtain ⟨b, hb, e⟩ := List.mem_filterMap.mp hp
  cases q : h.get? b with
  | none => rw [q] at e; cases e
  | some o =>
    rw [q] at e
    have e' : (b, o) = p := Option.some.inj e
    subst e'
    exact ⟨hb, q⟩
theorem Inv.pinned {pins : List (Addr × Obj)} {σ : St} {H : Hp} {s : Shared} {fp : List Addr} (I : Inv X pins σ H s) (hf : ∀ b ∈ fp, FpOk X pins H b) (ho : ∀ b ∈ fp, ∃ o, s.heap.get? b = some o ∧ ∀ v, o.data ≠ .cell v) : Inv X (pins ++ pinsAt fp s.heap) σ H s :=
  I.pins_of fun p hp => (List.mem_append.mp hp).elim (fun z => I.pin p (List.mem_append_right _ z)) fun z => by
    obtain ⟨hb, e⟩ := of_pinsAt z
    obtain ⟨f0, f1, f2, _⟩ := hf p.1 hb
    obtain ⟨o, e', d⟩ := ho p.1 hb
    rw [e] at e'; cases e'
    exact ⟨e, f0, f1, f2, d⟩
theorem Inv.unpinned {pins pl : List (Addr × Obj)} {σ : St} {H : Hp} {s : Shared} (I : Inv X (pins ++ pl) σ H s) : Inv X pins σ H s := I.pins_of fun p hp => I.pin p (List.mem_append_right _ (List.mem_append_left _ hp))
theorem ps_for {iter : Expr} {body : List Stmt} {wi : TI} {g : TG} {tb : TS} {pos : Pos} (hp : PassesOwn (model X.prog X.w) X.A X.env X.xe) (hc : X.calm = true) (hi : PI X tg iter wi) (hg : PG X tg g) (hb : PSs X body tb)
    (hs : ∀ x, foldedSetIterable iter X.env x = pure x := by intro _; rfl) : PS X (.For tg iter body [] pos) (tFor wi g tb) := by
  intro pins s σ H D I h
  refine wpAny_For (thn (hi pins s σ H _ I h) fun v s1 h1 => thn h1 fun itv s2 h2 => ?_) hs
  obtain ⟨it, fp, tn, J, H2, e, I2, T, st2, f2, W, ⟨m0, w0⟩, turn⟩ := h2
  subst e
  -- what stays true of the iterator's objects through the loop
  have stat : ∀ {H' : Hp}, (∀ b ∈ fp, H' b = none) → ∀ b ∈ fp, FpOk X pins H' b := fun hn b hb => ⟨hn b hb, (f2 b hb).2⟩
  refine codeAny_forLoop_any (fun n s' => ∃ i σ' H', Inv X pins σ' H' s' ∧ tn i s'.heap ∧ (∀ b ∈ fp, H' b = none) ∧ W i n σ' H') ?_ m0 ⟨0, σ, H2, I2, st2, fun b hb => (f2 b hb).1, w0⟩
  rintro n s3 ⟨i, σ3, H3, I3, st3, fr3, w3⟩
  rcases turn i n σ3 H3 w3 with ⟨stop, qn⟩ | ⟨go, N, hN, step⟩
  · refine wpAny_passesOwn hp (thn (T.done X rfl rfl rfl hc i pins s3 σ3 H3 X.xe I3 (stat fr3) st3 stop) fun r s4 ⟨hr, I4⟩ => ?_)
    subst hr
    exact wpAny_execs_nil ⟨σ3, H3, I4, qn⟩
  · refine wpAny_passesOwn hp (thn (T.item X rfl rfl rfl hc i pins s3 σ3 H3 X.xe I3 (stat fr3) st3 go) fun r s4 ⟨u, hr, h4⟩ => ?_)
    subst hr
    refine wpAny_passesOwn hp (thn h4 fun _ s5 ⟨x, H5, I5, r5, y5, st5, fr5⟩ => ?_)
    have I5' := I5.pinned (stat fr5) (T.obj _ _ st5)
    refine wpAny_passesOwn hp (thn (hg _ s5 σ3 H5 x u _ I5' r5 (step x H5 y5)) fun _ s6 ⟨σ6, H6, I6, q6⟩ => ?_)
    refine wpAny_passesOwn hp (thn (hb _ s6 σ6 H6 _ I6 q6) fun f s7 q7 => ?_)
    have again : ∀ {σ7 : St} {H7 : Hp}, Inv X (pins ++ pinsAt fp s5.heap) σ7 H7 s7 → N σ7 H7 → ∃ m, m < n ∧ ∃ i σ' H', Inv X pins σ' H' s7 ∧ tn i s7.heap ∧ (∀ b ∈ fp, H' b = none) ∧ W i m σ' H' := fun {σ7 H7} I7 n7 => by
      obtain ⟨m', hm, w7⟩ := hN σ7 H7 n7
      refine ⟨m', hm, i + 1, σ7, H7, I7.unpinned, T.keep _ _ _ st5 fun b hb o e => (I7.pin (b, o) (List.mem_append_right _ (List.mem_append_right _ (mem_pinsAt hb e)))).1, fun b hb => ?_, w7⟩
      obtain ⟨o, e, d⟩ := T.obj _ _ st5 b hb
      exact (I7.pin (b, o) (List.mem_append_right _ (List.mem_append_right _ (mem_pinsAt hb e)))).2.1
    cases f with
    | next => obtain ⟨σ7, H7, I7, n7⟩ := q7; exact again I7 n7
    | cont => obtain ⟨σ7, H7, I7, n7⟩ := q7; exact again I7 n7
    | brk => obtain ⟨σ7, H7, I7, q7⟩ := q7; exact ⟨σ7, H7, I7.unpinned, q7⟩
    | ret v => obtain ⟨x7, σ7, H7, I7, r7, q7⟩ := q7; exact ⟨x7, σ7, H7, I7.unpinned, r7, q7⟩
end
theorem for_list {K : PySem.W.Frag} {a : Addr} {xs : List V} {g : TG} {tb : TS} {D : Ends} {σ : St} {H : Hp} (Pv : Nat → St → Hp → Prop) (h0 : Pv 0 σ H) (hl : ∀ i σ H, i ≤ xs.length → Pv i σ H → SqL K H a xs)
    (hs : ∀ i x σ H, xs[i]? = some x → Pv i σ H → g x σ H fun σ2 H2 => tb { D with nx := Pv (i + 1), ct := Pv (i + 1), bk := D.nx } σ2 H2) (hd : ∀ σ H, Pv xs.length σ H → D.nx σ H) :
    ∃ W : Nat → Nat → St → Hp → Prop, (∃ m, W 0 m σ H) ∧ ∀ i m σ H, W i m σ H →
      ((Itl K a).stop i H ∧ D.nx σ H) ∨ ((Itl K a).go i H ∧ ∃ N : St → Hp → Prop, (∀ σ' H', N σ' H' → ∃ m', m' < m ∧ W (i + 1) m' σ' H') ∧ ∀ x H', (Itl K a).yld i H x H' → g x σ H' fun σ2 H2 => tb { D with nx := N, ct := N, bk := D.nx } σ2 H2) := by
  refine ⟨fun i m σ H => m = xs.length - i ∧ i ≤ xs.length ∧ Pv i σ H, ⟨xs.length, by simp, Nat.zero_le _, h0⟩, ?_⟩
  rintro i m σ H ⟨rfl, hi, p⟩
  have q := hl i σ H hi p
  by_cases hlt : i < xs.length
  · refine .inr ⟨⟨xs, xs[i], q, by simp [hlt]⟩, Pv (i + 1), fun σ' H' p' => ⟨xs.length - (i + 1), by omega, rfl, hlt, p'⟩, fun x H' y => ?_⟩
    obtain ⟨e, y⟩ := y
    subst e
    exact hs i x σ _ (y xs q) p
  · have e : i = xs.length := by omega
    subst e
    exact .inl ⟨⟨xs, q, Nat.le_refl _⟩, hd σ H p⟩
theorem for_range {lo : Int} {n : Nat} {g : TG} {tb : TS} {D : Ends} {σ : St} {H : Hp} (Pv : Nat → St → Hp → Prop) (h0 : Pv 0 σ H)
    (hs : ∀ i σ H, i < n → Pv i σ H → g (.int (lo + i)) σ H fun σ2 H2 => tb { D with nx := Pv (i + 1), ct := Pv (i + 1), bk := D.nx } σ2 H2) (hd : ∀ σ H, Pv n σ H → D.nx σ H) :
    ∃ W : Nat → Nat → St → Hp → Prop, (∃ m, W 0 m σ H) ∧ ∀ i m σ H, W i m σ H →
      ((Itr lo n).stop i H ∧ D.nx σ H) ∨ ((Itr lo n).go i H ∧ ∃ N : St → Hp → Prop, (∀ σ' H', N σ' H' → ∃ m', m' < m ∧ W (i + 1) m' σ' H') ∧ ∀ x H', (Itr lo n).yld i H x H' → g x σ H' fun σ2 H2 => tb { D with nx := N, ct := N, bk := D.nx } σ2 H2) := by
  refine ⟨fun i m σ H => m = n - i ∧ i ≤ n ∧ Pv i σ H, ⟨n, by simp, Nat.zero_le _, h0⟩, ?_⟩
  rintro i m σ H ⟨rfl, hi, p⟩
  by_cases hlt : i < n
  · refine .inr ⟨hlt, Pv (i + 1), fun σ' H' p' => ⟨n - (i + 1), by omega, rfl, hlt, p'⟩, fun x H' y => ?_⟩
    obtain ⟨e, y⟩ := y
    subst e y
    exact hs i σ _ hlt p
  · have e : i = n := by omega
    subst e
    exact .inl ⟨Nat.le_refl _, hd σ H p⟩
end L2
namespace L2
open PySem PySem.Spec PyProof.Rows
abbrev R2 := V → V → Hp → VK → Prop
def OpR (X : Cx) (f : Value → Value → Sem Value) (r : R2) : Prop :=
  ∀ (pins : List (Addr × Obj)) (s : Shared) (σ : St) (H : Hp) (x y : V) (v u : Value) (Q : VK), Inv X pins σ H s → RelV x v → RelV y u → r x y H Q →
    wpAny (model X.prog X.w) X.A (f v u) (EP X pins σ Q) X.xe s
def CallR (X : Cx) (f : Value) (r : List V → Hp → VK → Prop) : Prop :=
  ∀ (pins : List (Addr × Obj)) (s : Shared) (σ : St) (H : Hp) (xs : List V) (us : List Value) (Q : VK), Inv X pins σ H s → Vals xs us → r xs H Q →
    wpAny (model X.prog X.w) X.A (call f us) (EP X pins σ Q) X.xe s
def tOp (r : R2) (ta tb : TE) : TE := fun σ H Q => ta σ H fun x H1 => tb σ H1 fun y H2 => r x y H2 Q
def rI (C : Int → Int → Prop) (g : Int → Int → V) : R2 := fun x y H Q => ∃ i j, x = .int i ∧ y = .int j ∧ C i j ∧ Q (g i j) H
def rI0 (g : Int → Int → V) : R2 := fun x y H Q => ∃ i j, x = .int i ∧ y = .int j ∧ Q (g i j) H
section
variable {X : Cx} {a b c : Expr} {ta tb tc : TE} {pos : Pos}
theorem binT (ha : PE X a ta) (hb : PE X b tb) {pins : List (Addr × Obj)} {s : Shared} {σ : St} {H : Hp} {R : V → V → Hp → Prop} (I : Inv X pins σ H s)
    (h : ta σ H fun x H1 => tb σ H1 fun y H2 => R x y H2) {Q : Value → Shared → Prop} {f : Value → Value → Sem Value}
    (hf : ∀ v u s2 x y H2, Inv X pins σ H2 s2 → RelV x v → RelV y u → R x y H2 → wpAny (model X.prog X.w) X.A (f v u) Q X.xe s2) :
    wpAny (model X.prog X.w) X.A (eval a X.env) (fun v s₁ => wpAny (model X.prog X.w) X.A (eval b X.env) (fun u s₂ => wpAny (model X.prog X.w) X.A (f v u) Q X.xe s₂) X.xe s₁) X.xe s := by
  refine thn (ha pins s σ H _ I h) fun v s1 ⟨x, H1, I1, r1, q1⟩ => ?_
  refine thn (hb pins s1 σ H1 _ I1 q1) fun u s2 ⟨y, H2, I2, r2, q2⟩ => ?_
  exact hf v u s2 x y H2 I2 r1 r2 q2
theorem pe_op {op : Operator} {r : R2} (ho : OpR X (binaryOp op) r) (ha : PE X a ta) (hb : PE X b tb) : PE X (.BinOp a op b pos) (tOp r ta tb) := by
  intro pins s σ H Q I h
  exact wpAny_BinOp (binT ha hb I h fun v u s2 x y H2 I2 rx ry q => ho pins s2 σ H2 x y v u Q I2 rx ry q)
theorem opI {f : Value → Value → Sem Value} {C : Int → Int → Prop} {g : Int → Int → Int}
    (rule : ∀ (i j : Int) (t u : Tok) (s : Shared) (Q : Value → Shared → Prop) (E : Value → Shared → Prop), C i j → Q (.int (g i j) s.toks) { s with toks := s.toks + 1 } → wpAny (model X.prog X.w) X.A (f (.int i t) (.int j u)) Q E s) :
    OpR X f (rI C fun i j => .int (g i j)) := by
  intro pins s σ H x y v u Q I rx ry h
  obtain ⟨i, j, rfl, rfl, hc, q⟩ := h
  obtain ⟨t, rfl⟩ := rx
  obtain ⟨t', rfl⟩ := ry
  exact rule i j t t' s _ _ hc ⟨.int (g i j), H, I.tok _, ⟨_, rfl⟩, q⟩
theorem opI0 {f : Value → Value → Sem Value} {g : Int → Int → Int}
    (rule : ∀ (i j : Int) (t u : Tok) (s : Shared) (Q : Value → Shared → Prop) (E : Value → Shared → Prop), Q (.int (g i j) s.toks) { s with toks := s.toks + 1 } → wpAny (model X.prog X.w) X.A (f (.int i t) (.int j u)) Q E s) :
    OpR X f (rI0 fun i j => .int (g i j)) := by
  intro pins s σ H x y v u Q I rx ry h
  obtain ⟨i, j, rfl, rfl, q⟩ := h
  obtain ⟨t, rfl⟩ := rx
  obtain ⟨t', rfl⟩ := ry
  exact rule i j t t' s _ _ ⟨.int (g i j), H, I.tok _, ⟨_, rfl⟩, q⟩
theorem opB0 {f : Value → Value → Sem Value} {g : Int → Int → Bool}
    (rule : ∀ (i j : Int) (t u : Tok) (s : Shared) (Q : Value → Shared → Prop) (E : Value → Shared → Prop), Q (.bool (g i j)) s → wpAny (model X.prog X.w) X.A (f (.int i t) (.int j u)) Q E s) :
    OpR X f (rI0 fun i j => .bl (g i j)) := by
  intro pins s σ H x y v u Q I rx ry h
  obtain ⟨i, j, rfl, rfl, q⟩ := h
  obtain ⟨t, rfl⟩ := rx
  obtain ⟨t', rfl⟩ := ry
  exact rule i j t t' s _ _ ⟨.bl (g i j), H, I, rfl, q⟩
theorem op_add : OpR X (binaryOp .Add) (rI0 fun i j => .int (i + j)) := opI0 fun _ _ _ _ _ _ _ q => add_int q
theorem op_sub : OpR X (binaryOp .Sub) (rI0 fun i j => .int (i - j)) := opI0 fun _ _ _ _ _ _ _ q => sub_int q
theorem op_mod : OpR X (binaryOp .Mod) (rI (fun _ j => 0 < j) fun i j => .int (i % j)) := opI fun i j _ _ _ _ _ hc q => by
  have h1 : (0 : Int) < j := hc
  exact mod_int' (by omega) (by rw [Int.fmod_eq_emod_of_nonneg i (by omega)]; exact q)
end
section
variable {X : Cx} {a b c : Expr} {ta tb tc : TE} {pos : Pos}
theorem op_le : OpR X (compareOp .LtE) (rI0 fun i j => .bl (decide (i ≤ j))) := opB0 fun _ _ _ _ _ _ _ q => le_int q
def tTest (t : TE) : TT := fun σ H Q => t σ H fun x H' => ∃ k, x = .bl k ∧ Q k H'
theorem pt_cmpR {op : CmpOp} {r : R2} (ho : OpR X (compareOp op) r) (ha : PE X a ta) (hb : PE X b tb) (hm : behindInMarks op b = false) : PT X (.Compare a [op] [b] pos) (tTest (tOp r ta tb)) := by
  intro pins s σ H Q I h
  refine wpAny_isTrue_Compare1 (thn (ha pins s σ H _ I h) fun v s1 ⟨x, H1, I1, r1, q1⟩ => thn (hb pins s1 σ H1 _ I1 q1) fun u s2 ⟨y, H2, I2, r2, q2⟩ =>
    thn (ho pins s2 σ H2 x y v u _ I2 r1 r2 q2) fun c s3 ⟨z, H3, I3, r3, k, e, q3⟩ => ?_) hm
  subst e
  cases r3
  exact wpAny_truthy_bool ⟨H3, I3, q3⟩
def tChain (r r' : R2) (ta tb tc : TE) : TE := fun σ H Q => ta σ H fun x H1 => tb σ H1 fun y H2 => r x y H2 fun z H3 => ∃ k, z = .bl k ∧
  (if k = true then tc σ H3 fun w' H4 => r' y w' H4 Q else Q (.bl false) H3)
theorem pe_chain {op op' : CmpOp} {r r' : R2} (ho : OpR X (compareOp op) r) (ho' : OpR X (compareOp op') r') (ha : PE X a ta) (hb : PE X b tb) (hc : PE X c tc)
    (hm : lastMarks [op, op'] [b, c] = false := by with_unfolding_all rfl) : PE X (.Compare a [op, op'] [b, c] pos) (tChain r r' ta tb tc) := by
  intro pins s σ H Q I h
  refine Compare_chain (thn (ha pins s σ H _ I h) fun v s1 ⟨x, H1, I1, r1, q1⟩ => chain_link (thn (hb pins s1 σ H1 _ I1 q1) fun u s2 ⟨y, H2, I2, r2, q2⟩ =>
    thn (ho pins s2 σ H2 x y v u _ I2 r1 r2 q2) fun d s3 ⟨z, H3, I3, r3, k, e, q3⟩ => ?_)) hm
  subst e
  cases r3
  refine wpAny_truthy_bool ?_
  cases k with
  | false => exact ite_ff ⟨.bl false, H3, I3, rfl, q3⟩
  | true => exact ite_tt (chain_last (thn (hc pins s3 σ H3 _ I3 q3) fun w' s4 ⟨z', H4, I4, r4, q4⟩ => ho' pins s4 σ H4 y z' u w' Q I4 r2 r4 q4))
theorem pt_chain {op op' : CmpOp} {r r' : R2} (ho : OpR X (compareOp op) r) (ho' : OpR X (compareOp op') r') (ha : PE X a ta) (hb : PE X b tb) (hc : PE X c tc)
    (hm : lastMarks [op, op'] [b, c] = false := by with_unfolding_all rfl) : PT X (.Compare a [op, op'] [b, c] pos) (tTest (tChain r r' ta tb tc)) := by
  intro pins s σ H Q I h
  refine isTrue_chain (thn (ha pins s σ H _ I h) fun v s1 ⟨x, H1, I1, r1, q1⟩ => test_link (thn (hb pins s1 σ H1 _ I1 q1) fun u s2 ⟨y, H2, I2, r2, q2⟩ =>
    thn (ho pins s2 σ H2 x y v u _ I2 r1 r2 q2) fun d s3 ⟨z, H3, I3, r3, k, e, q3⟩ => ?_)) hm
  subst e
  cases r3
  refine wpAny_truthy_bool ?_
  cases k with
  | false =>
    obtain ⟨k', e', q'⟩ := q3
    cases e'
    exact ite_ff ⟨H3, I3, q'⟩
  | true =>
    refine ite_tt (test_last (thn (hc pins s3 σ H3 _ I3 q3) fun w' s4 ⟨z', H4, I4, r4, q4⟩ => thn (ho' pins s4 σ H4 y z' u w' _ I4 r2 r4 q4) fun d' s5 ⟨z2, H5, I5, r5, k2, e2, q5⟩ => ?_))
    subst e2
    cases r5
    exact wpAny_truthy_bool ⟨H5, I5, q5⟩
theorem line63 : (sizeLine : Nat) < 2 ^ 63 := by rw [sizeLine_eq]; decide
theorem vals1 {x : V} {us : List Value} (r : Vals [x] us) : ∃ u, us = [u] ∧ RelV x u := by
  cases r with
  | cons r1 r2 => cases r2; exact ⟨_, rfl, r1⟩
end
end L2
namespace L2
open PySem PySem.Spec PyProof.Rows
structure ObjM (h : Heap) (x dx C : Addr) (mA : Str → Option Value) : Prop where
  obj : h.get? x = some (PySem.W.instObj C dx)
  ns : h.Ns1 dx mA
  ne : dx ≠ x
theorem lookIn_ns {h : Heap} {dx : Addr} {mA : Str → Option Value} (n : h.Ns1 dx mA) : ∃ od, h.get? dx = some od ∧ ∀ name, PySem.W.lookIn name od = some (mA name) := by
  obtain ⟨o, es, ep, ho, hd, hk, _, hm⟩ := n
  refine ⟨o, ho, fun name => ?_⟩
  have e := hm name
  unfold nsFind findBy at e
  rw [← Array.find?_toList] at e
  unfold PySem.W.lookIn
  rw [hd]
  dsimp only
  split
  · rename_i y q
    rw [q] at e
    exact congrArg some e
  · rename_i q
    rw [q] at e
    have a : es.toList.any (·.refKey) = false := by
      rw [List.any_eq_false]
      intro y hy
      obtain ⟨z, t, hkey⟩ := hk y (Array.mem_toList_iff.mp hy)
      simp [DictEntry.refKey, hkey]
    have a' : ¬ es.toList.any (·.refKey) = true := by rw [a]; exact Bool.false_ne_true
    rw [if_neg a']
    exact congrArg some e
theorem ObjM.look {h : Heap} {x dx C : Addr} {mA : Str → Option Value} (I : ObjM h x dx C mA) : ∃ od, PySem.W.InstAt h x (PySem.W.instObj C dx) C (some od) ∧ ∀ name, PySem.W.lookIn name od = some (mA name) :=
  let ⟨od, ho, hl⟩ := lookIn_ns I.ns
  ⟨od, ⟨I.obj, rfl, rfl, ho⟩, hl⟩
section
variable {prog : Program} {w : World} {A : Around} {E : Value → Shared → Prop} {s : Shared} {K : PySem.W.Frag} {x dx C f : Addr} {mA : Str → Option Value} {name : Str} {v : Value}
theorem get_map {expr : Bool} {Q : Value → Shared → Prop} (X : K.In s.heap) (I : ObjM s.heap x dx C mA) (hg : PySem.W.plainGet K C name = true) (hh : PySem.W.hasDictIn K C = true)
    (ha : PySem.W.findIn K (.ref C) name = some none) (hv : mA name = some v) (hv' : PySem.W.handedIn v = true) (h : Q v { s with toks := s.toks + 1 }) :
    wpAny (model prog w) A (getAttr (.ref x) name expr) Q E s := by
  obtain ⟨od, J, hl⟩ := I.look
  exact PySem.W.get_value X J (PySem.W.plainGet_of hg).1 (PySem.W.findObj_own hh ha rfl (by rw [hl, hv])) hv' h
theorem get_meth {pl : Sem Bool} {Q : Value × List Value → Shared → Prop} (X : K.In s.heap) (I : ObjM s.heap x dx C mA) (hg : PySem.W.plainGet K C name = true)
    (hf : PySem.W.findIn K (.ref C) name = some (some (.ref f))) (ht : PySem.W.isFn K (.ref f) = true) (hv : mA name = none) (h : Q (.ref f, [.ref x]) s) :
    wpAny (model prog w) A (getMethod (.ref x) name pl) Q E s := by
  obtain ⟨od, J, hl⟩ := I.look
  exact PySem.W.method_fn X J (PySem.W.plainGet_of hg).1 (PySem.W.plainGet_of hg).2 hf (beq_iff_eq.mp ht) (by show (PySem.W.lookIn name od).map (·.isSome) = some false; rw [hl, hv]; rfl) h
theorem set_map {ns : List Str} {Q : Unit → Shared → Prop} (X : K.In s.heap) (I : ObjM s.heap x dx C mA)
    (hs : PySem.W.findIn K (.ref C) "__setattr__" = some (some (.builtin "object.__setattr__"))) (hp : PySem.W.plainOver K C = true) (ht : PySem.W.takerIn K C name = some none) (hh : PySem.W.hasDictIn K C = true)
    (hw : PySem.Within mA ns) (hsz : ns.length ≤ sizeLine)
    (h : ∀ h', ObjM h' x dx C (fun y => if y = name then some v else mA y) → Heap.SameBut dx s.heap h' → Q () { s with heap := h', toks := s.toks + 2 }) :
    wpAny (model prog w) A (setAttr (.ref x) name v) Q E s := by
  obtain ⟨od, J, hl⟩ := I.look
  refine PySem.W.set_plain X J hs (PySem.W.osa_open (s := { s with toks := s.toks + 1 }) (r := none) X J hp ht fun b => ?_)
  obtain ⟨cd, hc, hd'⟩ := PySem.W.any_some hh
  have hx : s.heap.get? x = some ⟨.ref C, some dx, .plain, #[]⟩ := I.obj
  refine wpAny_bind (wpAny_pure (wpAny_bind (wpAny_bind (wpAny_loadPart hx (wpAny_bind (PySem.W.Looks.here (s := { s with toks := s.toks + 1 }) (PySem.W.looks_clsIn X hc) ?_))))))
  rw [hd']
  refine wpAny_pure (a := some dx) (wpAny_bind (wpAny_pure (wpAny_bind ?_)))
  refine wpAny_nsSet1 (s := { s with toks := s.toks + 1 }) I.ns fun h' hn2 hs2 => ?_
  obtain ⟨oD, esD, epD, hoD, hdD, hcD⟩ := hn2.count (PySem.Within.cons name v hw)
  refine wpAny_bind (wpAny_lookBehind hoD (by rw [hdD]; exact pastItsLine_dict (Nat.le_trans hcD (by rw [List.length_cons]; omega))) ?_)
  exact wpAny_pure (h _ ⟨(hs2.2 _ (Ne.symm I.ne)).trans I.obj, hn2, I.ne⟩ hs2)
theorem make_map {R : Result → Shared → Prop} {vs : List Value} {kw : List (Str × Value)} (X : K.In s.heap) (hm : PySem.W.makesIn K C = true)
    (hi : PySem.W.findIn K (.ref C) "__init__" = some (some (.ref f))) (hf : PySem.W.typeIn K (.ref f) = some (.type "function"))
    (h : codeAny (model prog w) (A.under (.builtin "type.__call__" ⟨.ref C :: vs, kw⟩)) (.call (.ref f) ⟨.ref (s.heap.objs.size + 1) :: vs, kw⟩) (PySem.W.InitBack (s.heap.objs.size + 1) R)
      { s with heap := (s.heap.push PySem.W.emptyDict).push (PySem.W.instObj C s.heap.objs.size) }) :
    codeAny (model prog w) A (.call (.ref C) ⟨vs, kw⟩) R s := by
  obtain ⟨hh, g, d, t, os⟩ := s
  exact PySem.W.make_core (PySem.W.makes_of X hm) (PySem.W.looks_findIn X hi) (fun self => PySem.W.bind_fn X self hf) (.inl rfl) h
end
def putF (f : Str) (v : V) : List (Str × V) → List (Str × V)
  | [] => [(f, v)]
  | (g, x) :: r => if g = f then (g, v) :: r else (g, x) :: putF f v r
theorem lookup_putF (f g : Str) (v : V) : ∀ fs : List (Str × V), (putF f v fs).lookup g = if g = f then some v else fs.lookup g
  | [] => by
    show List.lookup g [(f, v)] = _
    by_cases h : g = f
    · have hb : (g == f) = true := beq_iff_eq.mpr h
      simp only [List.lookup, hb, if_pos h]
    · have hb : (g == f) = false := beq_eq_false_iff_ne.mpr h
      simp only [List.lookup, hb, if_neg h]
  | (k, x) :: r => by
    have ih := lookup_putF f g v r
    rw [show putF f v ((k, x) :: r) = (if k = f then (k, v) :: r else (k, x) :: putF f v r) from rfl]
    by_cases hk : k = f
    · rw [if_pos hk]
      by_cases h : g = k
      · have hb : (g == k) = true := beq_iff_eq.mpr h
        simp only [List.lookup, hb, if_pos (h.trans hk)]
      · have hb : (g == k) = false := beq_eq_false_iff_ne.mpr h
        simp only [List.lookup, hb, if_neg (fun e : g = f => h (e.trans hk.symm))]
    · rw [if_neg hk]
      by_cases h : g = k
      · have hb : (g == k) = true := beq_iff_eq.mpr h
        simp only [List.lookup, hb, if_neg (fun e : g = f => hk (h.symm.trans e))]
      · have hb : (g == k) = false := beq_eq_false_iff_ne.mpr h
        simp only [List.lookup, hb]
        exact ih
theorem keys_putF (f : Str) (v : V) : ∀ fs : List (Str × V), f ∈ (putF f v fs).map (·.1) ∧ ∀ g, g ∈ fs.map (·.1) → g ∈ (putF f v fs).map (·.1)
  | [] => ⟨by simp [putF], fun g h => by simp at h⟩
  | (k, x) :: r => by
    obtain ⟨i1, i2⟩ := keys_putF f v r
    rw [show putF f v ((k, x) :: r) = (if k = f then (k, v) :: r else (k, x) :: putF f v r) from rfl]
    by_cases hk : k = f
    · rw [if_pos hk]
      subst hk
      exact ⟨by simp, fun g h => by simpa using h⟩
    · rw [if_neg hk]
      refine ⟨?_, fun g h => ?_⟩
      · rw [List.map_cons]
        exact List.mem_cons_of_mem _ i1
      · rw [List.map_cons] at h ⊢
        rcases List.mem_cons.mp h with e | e
        · exact List.mem_cons.mpr (.inl e)
        · exact List.mem_cons_of_mem _ (i2 g e)
theorem length_putF (f : Str) (v : V) : ∀ fs : List (Str × V), (putF f v fs).length ≤ fs.length + 1
  | [] => by simp [putF]
  | (k, x) :: r => by
    have ih := length_putF f v r
    rw [show putF f v ((k, x) :: r) = (if k = f then (k, v) :: r else (k, x) :: putF f v r) from rfl]
    by_cases hk : k = f
    · rw [if_pos hk, List.length_cons, List.length_cons]; omega
    · rw [if_neg hk, List.length_cons, List.length_cons]; omega
theorem RelO.some_of {v : V} {o : Option Value} (r : RelO (some v) o) : ∃ u, o = some u ∧ RelV v u := by
  cases o with
  | none => exact (show False from r).elim
  | some u => exact ⟨u, rfl, r⟩
theorem RelO.none_of {o : Option Value} (r : RelO none o) : o = none := by
  cases o with
  | none => rfl
  | some u => exact (show False from r).elim
theorem handed_of {v : V} {u : Value} (r : RelV v u) : PySem.W.handedIn u = true := by
  cases v with
  | non => cases (show u = Value.none from r); rfl
  | bl b => cases (show u = Value.bool b from r); rfl
  | int i => obtain ⟨t, e⟩ := (show ∃ t, u = Value.int i t from r); cases e; rfl
  | str x => obtain ⟨t, e⟩ := (show ∃ t, u = Value.str x t from r); cases e; rfl
  | byt b => obtain ⟨t, e⟩ := (show ∃ t, u = Value.bytes b t from r); cases e; rfl
  | flt b => obtain ⟨t, e⟩ := (show ∃ t, u = Value.float b t from r); cases e; rfl
  | ref a => cases (show u = Value.ref a from r); rfl
  | ty n => cases (show u = Value.type n from r); rfl
section
variable {P : Program} {w : World} {H H' : Hp} {h h' : Heap} {a C dx : Addr} {fs fs' : List (Str × V)}
theorem ins_get (hok : HOk P w H h) (e : H a = some (.ins C dx fs)) : ∃ mA, ObjM h a dx C mA ∧ (∀ f, RelO (fs.lookup f) (mA f)) ∧ PySem.Within mA (fs.map (·.1)) ∧ fs.length ≤ 1000 ∧ H dx = some (.own a) := by
  obtain ⟨d, z, ne, ob, mA, n, r, q⟩ := (show ObjOk P w H h a (.ins C dx fs) from hok a _ e)
  exact ⟨mA, ⟨ob, n, ne⟩, r, q, z, d⟩
end
structure Cls (K : PySem.W.Frag) (C : Addr) : Prop where
  pg : PySem.W.plainGet K C Str.empty = true
  hd : PySem.W.hasDictIn K C = true
  po : PySem.W.plainOver K C = true
  sa : PySem.W.findIn K (.ref C) "__setattr__" = some (some (.builtin "object.__setattr__"))
theorem Cls.get {K : PySem.W.Frag} {C : Addr} (c : Cls K C) (f : Str) : PySem.W.plainGet K C f = true := c.pg
def NoAttr (K : PySem.W.Frag) (C : Addr) (f : Str) : Prop := PySem.W.findIn K (.ref C) f = some none
theorem NoAttr.taker {K : PySem.W.Frag} {C : Addr} {f : Str} (n : NoAttr K C f) : PySem.W.takerIn K C f = some none := by
  unfold PySem.W.takerIn
  rw [show PySem.W.findIn K (.ref C) f = some none from n]
  rfl
structure Meth (K : PySem.W.Frag) (C : Addr) (m : Str) (f : Addr) : Prop where
  at_ : PySem.W.findIn K (.ref C) m = some (some (.ref f))
  fn : PySem.W.isFn K (.ref f) = true
  kp : PySem.W.keepIn K (.ref f) = true
section
variable {X : Cx} {pins : List (Addr × Obj)} {σ : St} {H : Hp} {s : Shared} {a C dx : Addr} {fs : List (Str × V)} {f : Str} {v : V} {A : Around} {E : Value → Shared → Prop}
theorem getattr_ok {b : Bool} {Q : Value → Shared → Prop} (I : Inv X pins σ H s) (e : H a = some (.ins C dx fs)) (c : Cls X.K C) (n : NoAttr X.K C f) (l : fs.lookup f = some v)
    (h : ∀ u s', Inv X pins σ H s' → RelV v u → Q u s') : wpAny (model X.prog X.w) A (getAttr (.ref a) f b) Q E s := by
  obtain ⟨mA, O, r, _, _, _⟩ := ins_get I.hok e
  obtain ⟨u, hu, ru⟩ := RelO.some_of (v := v) (o := mA f) (by rw [← l]; exact r f)
  exact get_map I.kIn O (c.get f) c.hd n hu (handed_of ru) (h u _ (I.tok _) ru)
theorem getmeth_ok {m : Str} {g : Addr} {pl : Sem Bool} {Q : Value × List Value → Shared → Prop} (I : Inv X pins σ H s) (e : H a = some (.ins C dx fs)) (c : Cls X.K C) (k : Meth X.K C m g) (l : fs.lookup m = none)
    (h : Q (.ref g, [.ref a]) s) : wpAny (model X.prog X.w) A (getMethod (.ref a) m pl) Q E s := by
  obtain ⟨mA, O, r, _, _, _⟩ := ins_get I.hok e
  have hn : mA m = none := RelO.none_of (by rw [← l]; exact r m)
  exact get_meth I.kIn O (c.get m) k.at_ k.fn hn h
theorem setattr_ok {y : V} {u : Value} {Q : Unit → Shared → Prop} (I : Inv X pins σ H s) (e : H a = some (.ins C dx fs)) (c : Cls X.K C) (n : NoAttr X.K C f) (hl : fs.length < 1000) (ry : RelV y u)
    (h : ∀ s', Inv X pins σ (upd H a (.ins C dx (putF f y fs))) s' → Q () s') : wpAny (model X.prog X.w) A (setAttr (.ref a) f u) Q E s := by
  obtain ⟨mA, O, r, wi, _, ho⟩ := ins_get I.hok e
  have hz : (fs.map (·.1)).length ≤ sizeLine := by rw [List.length_map, sizeLine_eq]; omega
  refine set_map I.kIn O c.sa c.po n.taker c.hd wi hz fun h' O' sb => h _ ?_
  have hd : ∃ o, h'.get? dx = some o := let ⟨o, _, _, e', _⟩ := O'.ns; ⟨o, e'⟩
  refine I.write (x := a) (e := dx) (by rw [e]; exact True.intro) (.inr ho) (fun b q hb z => (sb.2 b hb).trans z) hd ?_
  refine ⟨by rw [upd_ne O.ne]; exact ho, ?_, O.ne, O'.obj, _, O'.ns, fun g => ?_, fun g hg => ?_⟩
  · have := length_putF f y fs; omega
  · show RelO ((putF f y fs).lookup g) (if g = f then some u else mA g)
    rw [lookup_putF]
    by_cases q : g = f
    · rw [if_pos q, if_pos q]; exact ry
    · rw [if_neg q, if_neg q]; exact r g
  · by_cases q : g = f
    · rw [q]; exact (keys_putF f y fs).1
    · refine (keys_putF f y fs).2 g (wi g fun z => hg ?_)
      show (if g = f then some u else mA g) = none
      rw [if_neg q]; exact z
theorem Inv.made (I : Inv X pins σ H s) : Inv X pins σ (upd (upd H s.heap.objs.size (.own (s.heap.objs.size + 1))) (s.heap.objs.size + 1) (.ins C s.heap.objs.size []))
    { s with heap := (s.heap.push PySem.W.emptyDict).push (PySem.W.instObj C s.heap.objs.size) } := by
  have e1 : (s.heap.push PySem.W.emptyDict).get? s.heap.objs.size = some PySem.W.emptyDict := Heap.get?_push_size s.heap rfl
  have e2 : ((s.heap.push PySem.W.emptyDict).push (PySem.W.instObj C s.heap.objs.size)).get? (s.heap.objs.size + 1) = some (PySem.W.instObj C s.heap.objs.size) := by
    have := Heap.get?_push_size (s.heap.push PySem.W.emptyDict) (o := PySem.W.instObj C s.heap.objs.size) rfl
    rwa [Heap.size_push] at this
  have e3 : (s.heap.push PySem.W.emptyDict).Ns s.heap.objs.size (fun _ => none) := ⟨PySem.W.emptyDict, #[], _, e1, rfl, (fun e he => absurd he (by simp)), fun _ => rfl⟩
  have I1 := I.laid (a := s.heap.objs.size) (o := .own (s.heap.objs.size + 1)) (h' := s.heap.push PySem.W.emptyDict) (t' := s.toks) (fun b u q => Heap.get?_push_of_some _ q) (Nat.le_refl _) ⟨_, e1⟩
  refine I1.laid (a := s.heap.objs.size + 1) (o := .ins C s.heap.objs.size []) (t' := s.toks) (fun b u q => Heap.get?_push_of_some _ q) (Nat.le_of_eq (Heap.size_push _ _)) ?_
  have ne : s.heap.objs.size ≠ s.heap.objs.size + 1 := Nat.ne_of_lt (Nat.lt_succ_self _)
  refine ⟨by rw [upd_ne ne, upd_same], Nat.zero_le _, ne, e2, fun _ => none, (Heap.Ns1.of_empty e3).at fun o q => Heap.get?_push_of_some _ q, fun _ => True.intro, fun y hy => absurd rfl hy⟩
theorem attr_of {prog : Program} {w : World} {env : Env} {e : Expr} {f : Str} {pos : Pos} {s : Shared} {Q : Value → Shared → Prop} (hb : attributeBase e f env (eval e env) = eval e env)
    (h : wpAny (model prog w) A (eval e env) (fun o s₁ => wpAny (model prog w) A (getAttr o f true) Q E s₁) E s) : wpAny (model prog w) A (eval (.Attribute e f pos) env) Q E s :=
  Attribute_any_ h (by rw [arm_eval_Attribute, hb])
end
def tFld (K : PySem.W.Frag) (ta : TE) (f : Str) : TE := fun σ H Q => ta σ H fun x H1 => ∃ a C dx fs v, x = .ref a ∧ H1 a = some (.ins C dx fs) ∧ Cls K C ∧ NoAttr K C f ∧ fs.lookup f = some v ∧ Q v H1
def sFld (K : PySem.W.Frag) (ta tv : TE) (f : Str) : TS := fun D σ H => tv σ H fun y H1 => ta σ H1 fun x H2 => ∃ a C dx fs, x = .ref a ∧ H2 a = some (.ins C dx fs) ∧ Cls K C ∧ NoAttr K C f ∧ fs.length < 1000 ∧
  D.nx σ (upd H2 a (.ins C dx (putF f y fs)))
section
variable {X : Cx} {o e value : Expr} {f : Str} {pos pos' tpos : Pos} {ta tv : TE}
theorem pe_fld (he : PE X e ta) (hb : attributeBase e f X.env (eval e X.env) = eval e X.env) : PE X (.Attribute e f pos) (tFld X.K ta f) := by
  intro pins s σ H Q I h
  refine attr_of hb (thn (he pins s σ H _ I h) fun u s1 ⟨x, H1, I1, rx, a, C, dx, fs, v, ex, ea, c, n, l, q⟩ => ?_)
  subst ex
  obtain rfl : u = Value.ref a := rx
  exact getattr_ok I1 ea c n l fun u' s2 I2 ru => ⟨v, H1, I2, ru, q⟩
theorem ps_fld (ha : PE X o ta) (hv : PE X value tv) (hs : swapsWith value (some (.Attribute o f pos')) pos.line X.env = pure false) : PS X (.Assign [.Attribute o f pos'] value pos) (sFld X.K ta tv f) := by
  intro pins s σ H D I h
  refine plainObj_wpAny_Assign_Attribute (thn (hv pins s σ H _ I h) fun u s1 ⟨y, H1, I1, ry, q⟩ => thn (ha pins s1 σ H1 _ I1 q) fun ov s2 ⟨x, H2, I2, rx, a, C, dx, fs, ex, ea, c, n, l, q2⟩ => ?_) hs
  subst ex
  obtain rfl : ov = Value.ref a := rx
  exact setattr_ok I2 ea c n l ry fun s3 I3 => ⟨σ, _, I3, q2⟩
theorem methcall_of {pl : Sem Bool} {m : Str} {apos : Pos} {args : List Expr} {pins : List (Addr × Obj)} {s : Shared} {σ : St} {H : Hp} {Q : Value → Shared → Prop} {te : TE} (he : PE X e te) (I : Inv X pins σ H s)
    (h : te σ H fun x H1 => ∃ a C dx fs g, x = .ref a ∧ H1 a = some (.ins C dx fs) ∧ Cls X.K C ∧ Meth X.K C m g ∧ fs.lookup m = none ∧
      ∀ s1, Inv X pins σ H1 s1 → wpAny (model X.prog X.w) X.A (callWith pos (.ref g) [.ref a] (backTo pos (starEach args X.env)) (backToKw pos (keywordEach [] X.env))) Q X.xe s1)
    (ht : eval (.Call (.Attribute e m apos) args [] pos) X.env = (do
      let ov ← eval e X.env
      standAt apos.atName
      let (f, first) ← holding [ov] (getMethod ov m pl)
      callWith pos f first (backTo pos (starEach args X.env)) (backToKw pos (keywordEach [] X.env)))) :
    wpAny (model X.prog X.w) X.A (eval (.Call (.Attribute e m apos) args [] pos) X.env) Q X.xe s := by
  refine PySem.W.methodCall_KW (pl := pl) (thn (he pins s σ H _ I h) fun u s1 ⟨x, H1, I1, rx, a, C, dx, fs, g, ex, ea, c, k, l, q⟩ => ?_) ht
  subst ex
  obtain rfl : u = Value.ref a := rx
  exact getmeth_ok I1 ea c k l (q s1 I1)
end
section
variable {X : Cx} {pins : List (Addr × Obj)} {σ : St} {H : Hp} {s : Shared} {A : Around} {E : Value → Shared → Prop} {Q : Value → Shared → Prop} {c : Value} {b : Bool}
end
end L2
namespace L2
open PySem PySem.Spec PyProof.Rows
structure Room (k : Nat) (A : Around) : Prop where
  hd : A.handled = none
  dp : A.depth + 3 * k + 5 < recursionLimit
  un : A.units + 16 * k + 200 < cLine
theorem Room.mono {j k : Nat} {A : Around} (r : Room k A) (h : j ≤ k) : Room j A := ⟨r.hd, by have := r.dp; omega, by have := r.un; omega⟩
theorem Room.deeper {k : Nat} {A : Around} (r : Room (k + 1) A) (env : Env) : Room k (A.deeper env) :=
  ⟨r.hd, by have := r.dp; show A.depth + 1 + 3 * k + 5 < _; omega, by have := r.un; show A.units + 3 + 16 * k + 200 < _; omega⟩
theorem make_depth {A : Around} {C : Addr} {us : List Value} {kw : List (Str × Value)} : (A.under (.builtin "type.__call__" ⟨.ref C :: us, kw⟩)).depth = A.depth + 1 := by
  first | rfl | simp [Around.under, Code.weight, Code.isCreation, Code.isGuard, Code.isCaller, Code.frames, Code.isFrame, guardIds]
theorem make_units {A : Around} {C : Addr} {us : List Value} {kw : List (Str × Value)} : (A.under (.builtin "type.__call__" ⟨.ref C :: us, kw⟩)).units = A.units + 1 := by
  first | rfl | simp [Around.under, Code.cUnits, Code.frames, Code.isFrame]
theorem Room.make {k : Nat} {A : Around} (r : Room (k + 1) A) (C : Addr) (us : List Value) (kw : List (Str × Value)) : Room k (A.under (.builtin "type.__call__" ⟨.ref C :: us, kw⟩)) :=
  ⟨r.hd, by have := r.dp; rw [make_depth]; omega, by have := r.un; rw [make_units]; omega⟩
theorem Room.depth {k : Nat} {A : Around} (r : Room k A) : A.depth < recursionLimit := by have := r.dp; omega
theorem Room.units {k : Nat} {A : Around} (r : Room k A) : A.units + 64 < cLine := by have := r.un; omega
def tNil : TA := fun _ H Q => Q [] H
def tCons (ta : TE) (tr : TA) : TA := fun σ H Q => ta σ H fun x H1 => tr σ H1 fun xs H2 => Q (x :: xs) H2
section
variable {X : Cx} {e : Expr} {es : List Expr} {te : TE} {t : TA} {pos : Pos}
theorem pa_nil : PA X [] tNil := fun _ _ _ _ H Q I h => Calls.spliced_nil ⟨[], H, I, .nil, h⟩
theorem pa_cons (ha : PE X e te) (hr : PA X es t) (hs : starEach (e :: es) X.env = (false, eval e X.env) :: starEach es X.env := by rfl) : PA X (e :: es) (tCons te t) := by
  intro pos pins s σ H Q I h
  rw [hs]
  show wpAny _ _ (spliced ((false, eval e X.env) :: backTo pos (starEach es X.env))) _ _ s
  refine Calls.spliced_cons (thn (ha pins s σ H _ I h) fun u s1 ⟨x, H1, I1, r1, q1⟩ => ?_)
  exact thn (hr pos pins s1 σ H1 _ I1 q1) fun us s2 ⟨xs, H2, I2, r2, q2⟩ => ⟨x :: xs, H2, I2, .cons r1 r2, q2⟩
def tTup (t : TA) : TE := fun σ H Q => t σ H fun xs H1 => xs.length ≤ sizeLine ∧ ∀ p, H1 p = none → Q (.ref p) (upd H1 p (.tup xs))
def tLst (t : TA) : TE := fun σ H Q => t σ H fun xs H1 => xs.length ≤ sizeLine ∧ ∀ p, H1 p = none → Q (.ref p) (upd H1 p (.lst xs))
theorem pe_tup {x1} (h : PA X es t) : PE X (.Tuple es x1 pos) (tTup t) := by
  intro pins s σ H Q I hq
  refine wpAny_Tuple_spliced (thn (h pos pins s σ H _ I hq) fun us s1 ⟨xs, H1, I1, r, z, q⟩ => ⟨by rw [← r.length]; exact z, ?_⟩)
  have hf : H1 s1.heap.objs.size = none := I1.hok.fresh (Nat.le_refl _)
  refine ⟨.ref s1.heap.objs.size, upd H1 s1.heap.objs.size (.tup xs), I1.laid (t' := s1.toks) (fun b u e => Heap.get?_push_of_some _ e) (Nat.le_refl _) ?_, rfl, q _ hf⟩
  exact ⟨z, us, r, ⟨_, Heap.get?_push_size _ rfl, rfl, _, rfl⟩⟩
theorem pe_lst (h : PA X es t) : PE X (.List es pos) (tLst t) := by
  intro pins s σ H Q I hq
  refine wpAny_List_spliced (thn (h pos pins s σ H _ I hq) fun us s1 ⟨xs, H1, I1, r, z, q⟩ => ⟨by rw [← r.length]; exact z, ?_⟩)
  have hf : H1 s1.heap.objs.size = none := I1.hok.fresh (Nat.le_refl _)
  refine ⟨.ref s1.heap.objs.size, upd H1 s1.heap.objs.size (.lst xs), I1.laid (t' := s1.toks) (fun b u e => Heap.get?_push_of_some _ e) (Nat.le_refl _) ?_, rfl, q _ hf⟩
  exact ⟨z, us, 0, r, Heap.get?_push_size _ rfl⟩
end
abbrev Sp := List V → Hp → VK → XK → Prop
abbrev CXT := List Env → Hp → Shared → XK → Value → Shared → Prop
structure Env0 (P : Program) (w : World) (K : PySem.W.Frag) (mg : Str → Option Value) (base : Heap) (A : Around) (outer : List Env) (s : Shared) (H : Hp) : Prop where
  frames : A.frames = some outer
  mod : Mod K mg base
  bs : ∀ b o, base.get? b = some o → s.heap.get? b = some o ∧ H b = none
  bsz : base.objs.size ≤ s.heap.objs.size
  funs : s.heap.FunFrames base outer
  frf : ∀ b ∈ frs outer, H b = none
  hok : HOk P w H s.heap
  bare : AllBare s.gens
def CE (outer : List Env) (P : Program) (w : World) (H : Hp) (s : Shared) (Q : VK) (u : Value) (s' : Shared) : Prop :=
  ∃ v H', s'.os = s.os ∧ AllBare s'.gens ∧ Un (frs outer) [] H H' s.heap s'.heap ∧ HOk P w H' s'.heap ∧ RelV v u ∧ Q v H'
def CR (CX : CXT) (outer : List Env) (P : Program) (w : World) (H : Hp) (s : Shared) (Q : VK) (E : XK) (r : Result) (s' : Shared) : Prop :=
  match r with
  | .ok (.ret u) => CE outer P w H s Q u s'
  | .ok _ => False
  | .error e => CX outer H s E e s'
structure FnOk (P : Program) (w : World) (K : PySem.W.Frag) (mg : Str → Option Value) (base : Heap) (CX : CXT) (k : Nat) (f : Addr) (fd : FuncData) (ps : List Str) (sp : Sp) : Prop where
  len : ∀ vs H Q E, sp vs H Q E → vs.length = ps.length
  run : ∀ (A : Around) (outer : List Env) (s : Shared) (H : Hp) (args : Args) (us : List Value) (vs : List V) (Q : VK) (E : XK), Room k A → Env0 P w K mg base A outer s H → BindsTo s fd args (ps.zip us) → Vals vs us → sp vs H Q E →
    codeAny (model P w) A (.call (.ref f) args) (CR CX outer P w H s Q E) s
theorem Env0.make {P : Program} {w : World} {K : PySem.W.Frag} {mg : Str → Option Value} {base : Heap} {A : Around} {outer : List Env} {s : Shared} {H : Hp} (e : Env0 P w K mg base A outer s H) (C : Addr) (us : List Value) (kw : List (Str × Value)) :
    Env0 P w K mg base (A.under (.builtin "type.__call__" ⟨.ref C :: us, kw⟩)) outer s H := ⟨by first | exact e.frames | (simpa [Around.under, Code.envs, Code.isFrame, pushEnvs] using e.frames), e.mod, e.bs, e.bsz, e.funs, e.frf, e.hok, e.bare⟩
section
variable {X : Cx} {pins : List (Addr × Obj)} {σ : St} {H : Hp} {s s' : Shared}
theorem Inv.env0 (I : Inv X pins σ H s) : Env0 X.prog X.w X.K X.mg X.base X.A X.stack s H :=
  ⟨I.ok.frames, I.ok.mod, I.bs, Nat.le_trans I.ok.bsz I.sz, I.stack, I.stkFree, I.hok, I.bare⟩
theorem Inv.after {Q : VK} {u : Value} (I : Inv X pins σ H s) (h : CE X.stack X.prog X.w H s Q u s') : EP X pins σ Q u s' := by
  obtain ⟨v, H', os, bare, un, hok, r, q⟩ := h
  obtain ⟨hh, g, d, t, os'⟩ := s'
  obtain rfl : os' = s.os := os
  exact ⟨v, H', I.call (h' := hh) (g' := g) (d' := d) (t' := t) (ch := []) un hok bare (fun b z => absurd z (by simp)), r, q⟩
end
def tCall (sp : Sp) (dvs : List V) (E : XK) (t : TA) : TE := fun σ H Q => t σ H fun vs H1 => sp (vs ++ dvs) H1 Q E
def tMeth (C : Addr) (m : Str) (sp : Sp) (dvs : List V) (E : XK) (ta : TE) (t : TA) : TE := fun σ H Q => ta σ H fun x H1 => ∃ a dx fs, x = .ref a ∧ H1 a = some (.ins C dx fs) ∧ fs.lookup m = none ∧
  t σ H1 fun vs H2 => sp (x :: (vs ++ dvs)) H2 Q E
def tMake (C : Addr) (sp : Sp) (dvs : List V) (E : XK) (t : TA) : TE := fun σ H Q => t σ H fun vs H1 => ∀ x dx, H1 x = none → H1 dx = none → dx ≠ x →
  sp (.ref x :: (vs ++ dvs)) (upd (upd H1 dx (.own x)) x (.ins C dx [])) (fun v H2 => v = .non ∧ Q (.ref x) H2) E
def Binds (K : PySem.W.Frag) (fd : FuncData) (ps : List Str) (ds : List Value) : Prop :=
  ∀ (s : Shared) (us : List Value), K.In s.heap → (us ++ ds).length = ps.length → BindsTo s fd ⟨us, []⟩ (ps.zip (us ++ ds))
theorem Binds.all {K : PySem.W.Frag} {fd : FuncData} {ps : List Str} (h : ∀ us : List Value, us.length = ps.length → bindArgs fd ⟨us, []⟩ = pure (ps.zip us)) : Binds K fd ps [] := fun s us _ hl => by
  rw [List.append_nil] at hl ⊢
  exact .of_eq (h us hl)
def Passes (CX : CXT) (X : Cx) (E : XK) : Prop := ∀ (pins : List (Addr × Obj)) (σ : St) (H : Hp) (s : Shared) (e : Value) (s' : Shared), Inv X pins σ H s → CX X.stack H s E e s' → X.xe e s'
section
variable {X : Cx} {CX : CXT} {k : Nat} {f C : Addr} {fd : FuncData} {ps : List Str} {sp : Sp} {dvs : List V} {ds : List Value} {E : XK} {x m : Str} {p pos apos : Pos} {e o : Expr} {es : List Expr} {ta : TE} {t : TA}
theorem run_fn {pins : List (Addr × Obj)} {σ : St} {H : Hp} {s : Shared} {Q : VK} {us : List Value} {vs : List V} (F : FnOk X.prog X.w X.K X.mg X.base CX k f fd ps sp) (hr : Room k X.A) (hb : Binds X.K fd ps ds) (hd : Vals dvs ds) (hx : Passes CX X E)
    (I : Inv X pins σ H s) (r : Vals vs us) (h : sp (vs ++ dvs) H Q E) : wpAny (model X.prog X.w) X.A (call (.ref f) us) (EP X pins σ Q) X.xe s := by
  have r2 : Vals (vs ++ dvs) (us ++ ds) := r.append hd
  have hl : (us ++ ds).length = ps.length := by rw [← r2.length]; exact F.len _ _ _ _ h
  refine wpAny_call (codeAny_mono (F.run X.A X.stack s H ⟨us, []⟩ (us ++ ds) (vs ++ dvs) Q E hr I.env0 (hb s us I.kIn hl) r2 h) fun r s' hq => ?_)
  cases r with
  | error e => exact hx pins σ H s e s' I hq
  | ok fl =>
    cases fl with
    | ret u => exact I.after hq
    | next => exact False.elim hq
    | brk => exact False.elim hq
    | cont => exact False.elim hq
theorem pe_call (F : FnOk X.prog X.w X.K X.mg X.base CX k f fd ps sp) (hr : Room k X.A) (hg : Gl X x) (hm : X.mg x = some (.ref f)) (hk : PySem.W.keepIn X.K (.ref f) = true) (hb : Binds X.K fd ps ds) (hd : Vals dvs ds) (hx : Passes CX X E)
    (ha : PA X (e :: es) t) (hdb : (x == ("__debug__" : Str)) = false := by decide) (he : starEach (e :: es) X.env = (false, eval e X.env) :: starEach es X.env := by rfl) (hpl : (backTo pos (starEach es X.env)).any (·.1) = false := by rfl) :
    PE X (.Call (.Name x p) (e :: es) [] pos) (tCall sp dvs E t) := by
  intro pins s σ H Q I h
  refine wpAny_Call_Name_kw (ld_glob I hg hm ?_ hdb)
  refine PySem.W.callWith_K (h₀ := X.base) I.ok.mod.kin hk (thn (ha pos pins s σ H _ I h) fun us s1 ⟨vs, H1, I1, r, q⟩ => ⟨I1.kIn, ?_⟩) he hpl
  exact run_fn F hr hb hd hx I1 r q
theorem pe_meth {pl : Sem Bool} (he : PE X o ta) (c : Cls X.K C) (hm : Meth X.K C m f) (F : FnOk X.prog X.w X.K X.mg X.base CX k f fd ps sp) (hr : Room k X.A) (hb : Binds X.K fd ps ds) (hd : Vals dvs ds) (hx : Passes CX X E) (ha : PA X (e :: es) t)
    (hst : starEach (e :: es) X.env = (false, eval e X.env) :: starEach es X.env := by rfl) (hpl : (backTo pos (starEach es X.env)).any (·.1) = false := by rfl)
    (ht : eval (.Call (.Attribute o m apos) (e :: es) [] pos) X.env = (do
      let ov ← eval o X.env
      standAt apos.atName
      let (f, first) ← holding [ov] (getMethod ov m pl)
      callWith pos f first (backTo pos (starEach (e :: es) X.env)) (backToKw pos (keywordEach [] X.env))) := by rfl) :
    PE X (.Call (.Attribute o m apos) (e :: es) [] pos) (tMeth C m sp dvs E ta t) := by
  intro pins s σ H Q I h
  refine PySem.W.methodCall_KW (pl := pl) (thn (he pins s σ H _ I h) fun u s1 ⟨x, H1, I1, rx, a, dx, fs, ex, ea, l, q⟩ => ?_) ht
  subst ex
  obtain rfl : u = Value.ref a := rx
  refine getmeth_ok I1 ea c hm l ?_
  refine PySem.W.callWith_K (first := [.ref a]) (h₀ := X.base) I.ok.mod.kin hm.kp (thn (ha pos pins s1 σ H1 _ I1 q) fun us s2 ⟨vs, H2, I2, r, q2⟩ => ⟨I2.kIn, ?_⟩) hst hpl
  exact run_fn (us := .ref a :: us) (vs := .ref a :: vs) F hr hb hd hx I2 (.cons rfl r) q2
theorem pe_meth0 {pl : Sem Bool} (he : PE X o ta) (c : Cls X.K C) (hm : Meth X.K C m f) (F : FnOk X.prog X.w X.K X.mg X.base CX k f fd ps sp) (hr : Room k X.A) (hb : Binds X.K fd ps ds) (hd : Vals dvs ds) (hx : Passes CX X E)
    (ht : eval (.Call (.Attribute o m apos) [] [] pos) X.env = (do
      let ov ← eval o X.env
      standAt apos.atName
      let (f, first) ← holding [ov] (getMethod ov m pl)
      callWith pos f first (backTo pos (starEach [] X.env)) (backToKw pos (keywordEach [] X.env))) := by rfl) :
    PE X (.Call (.Attribute o m apos) [] [] pos) (tMeth C m sp dvs E ta tNil) := by
  intro pins s σ H Q I h
  refine PySem.W.methodCall_KW (pl := pl) (thn (he pins s σ H _ I h) fun u s1 ⟨x, H1, I1, rx, a, dx, fs, ex, ea, l, q⟩ => ?_) ht
  subst ex
  obtain rfl : u = Value.ref a := rx
  refine getmeth_ok I1 ea c hm l ?_
  exact PySem.W.callWith_K0 (first := [.ref a]) I1.kIn hm.kp (run_fn (us := [.ref a]) (vs := [.ref a]) F hr hb hd hx I1 (.cons rfl .nil) q)
structure Mk (K : PySem.W.Frag) (C f : Addr) : Prop where
  makes : PySem.W.makesIn K C = true
  init : PySem.W.findIn K (.ref C) "__init__" = some (some (.ref f))
  fn : PySem.W.isFn K (.ref f) = true
  kp : PySem.W.keepIn K (.ref C) = true
theorem run_make {pins : List (Addr × Obj)} {σ : St} {H : Hp} {s : Shared} {Q : VK} {us : List Value} {vs : List V} (M : Mk X.K C f) (F : FnOk X.prog X.w X.K X.mg X.base CX k f fd ps sp) (hr : Room (k + 1) X.A) (hb : Binds X.K fd ps ds) (hd : Vals dvs ds)
    (hx : Passes CX X E) (I : Inv X pins σ H s) (r : Vals vs us)
    (h : ∀ x dx, H x = none → H dx = none → dx ≠ x → sp (.ref x :: (vs ++ dvs)) (upd (upd H dx (.own x)) x (.ins C dx [])) (fun v H2 => v = .non ∧ Q (.ref x) H2) E) :
    wpAny (model X.prog X.w) X.A (call (.ref C) us) (EP X pins σ Q) X.xe s := by
  have hq := h (s.heap.objs.size + 1) s.heap.objs.size (I.hok.fresh (Nat.le_succ _)) (I.hok.fresh (Nat.le_refl _)) (Nat.ne_of_lt (Nat.lt_succ_self _))
  have I2 := Inv.made (C := C) I
  have r2 : Vals (V.ref (s.heap.objs.size + 1) :: (vs ++ dvs)) (Value.ref (s.heap.objs.size + 1) :: (us ++ ds)) := .cons rfl (r.append hd)
  have hl : (Value.ref (s.heap.objs.size + 1) :: us ++ ds).length = ps.length := by
    have e := r2.length
    rw [F.len _ _ _ _ hq] at e
    exact e.symm
  refine wpAny_call (make_map (f := f) I.kIn M.makes M.init (beq_iff_eq.mp M.fn) (codeAny_mono (F.run _ X.stack _ _ ⟨Value.ref (s.heap.objs.size + 1) :: us, []⟩ (Value.ref (s.heap.objs.size + 1) :: (us ++ ds)) _ _ E (hr.make C us [])
    (I2.env0.make C us []) (hb _ (Value.ref (s.heap.objs.size + 1) :: us) I2.kIn hl) r2 hq) fun r s' hq' => ?_))
  cases r with
  | error e => exact hx pins σ _ _ e s' I2 hq'
  | ok fl =>
    cases fl with
    | ret u =>
      obtain ⟨v, H', I3, rv, ev, q3⟩ := I2.after hq'
      subst ev
      exact ⟨rv, ⟨V.ref (s.heap.objs.size + 1), H', I3, rfl, q3⟩⟩
    | next => exact False.elim hq'
    | brk => exact False.elim hq'
    | cont => exact False.elim hq'
theorem pe_make (M : Mk X.K C f) (F : FnOk X.prog X.w X.K X.mg X.base CX k f fd ps sp) (hr : Room (k + 1) X.A) (hg : Gl X x) (hm : X.mg x = some (.ref C)) (hb : Binds X.K fd ps ds) (hd : Vals dvs ds) (hx : Passes CX X E)
    (ha : PA X (e :: es) t) (hdb : (x == ("__debug__" : Str)) = false := by decide) (he : starEach (e :: es) X.env = (false, eval e X.env) :: starEach es X.env := by rfl) (hpl : (backTo pos (starEach es X.env)).any (·.1) = false := by rfl) :
    PE X (.Call (.Name x p) (e :: es) [] pos) (tMake C sp dvs E t) := by
  intro pins s σ H Q I h
  refine wpAny_Call_Name_kw (ld_glob I hg hm ?_ hdb)
  refine PySem.W.callWith_K (h₀ := X.base) I.ok.mod.kin M.kp (thn (ha pos pins s σ H _ I h) fun us s1 ⟨vs, H1, I1, r, q⟩ => ⟨I1.kIn, ?_⟩) he hpl
  exact run_make M F hr hb hd hx I1 r q
theorem pe_make0 (M : Mk X.K C f) (F : FnOk X.prog X.w X.K X.mg X.base CX k f fd ps sp) (hr : Room (k + 1) X.A) (hg : Gl X x) (hm : X.mg x = some (.ref C)) (hb : Binds X.K fd ps ds) (hd : Vals dvs ds) (hx : Passes CX X E)
    (hdb : (x == ("__debug__" : Str)) = false := by decide) : PE X (.Call (.Name x p) [] [] pos) (tMake C sp dvs E tNil) := by
  intro pins s σ H Q I h
  refine wpAny_Call_Name_kw (ld_glob I hg hm ?_ hdb)
  exact PySem.W.callWith_K0 I.kIn M.kp (run_make (us := []) M F hr hb hd hx I .nil h)
end
section
variable {X : Cx} {CX : CXT} {k : Nat} {f C : Addr} {fd : FuncData} {ps ks : List Str} {sp : Sp} {E : XK} {x m : Str} {p pos apos kpos : Pos} {e o : Expr} {es : List Expr} {kws : List Keyword} {te ta : TE} {t tk : TA} {nm : Option Str}
variable {g : List Value → List Value → List Value} {gV : List V → List V → List V}
end
structure FnScope (N P : List Str) (sc : Scope) : Prop where
  kind : sc.kind = .function
  co : sc.isCoroutine = false
  gen : sc.isGenerator = false
  nd : N.Nodup
  pre : N.take P.length = P
  par : ∀ x ∈ P, sc.names.lookup x = some .local ∨ sc.names.lookup x = some .cell
  nofree : ∀ y ∈ sc.names, y.2 ≠ .free
theorem bindL_out {kindOf : Str → Option NameKind} {x : Str} : ∀ {binds : List (Str × Value)} {m : Str → Option Value}, (∀ v, (x, v) ∉ binds) → bindL kindOf binds m x = m x
  | [], _, _ => rfl
  | (n, v) :: r, m, h => by
    unfold bindL
    rw [bindL_out fun w hw => h w (List.mem_cons_of_mem _ hw)]
    split
    · have : x ≠ n := by rintro rfl; exact h v List.mem_cons_self
      simp [this]
    · rfl
theorem bindC_out {kindOf : Str → Option NameKind} {x : Str} : ∀ {binds : List (Str × Value)} {m : Str → Option Value}, (∀ v, (x, v) ∉ binds) → bindC kindOf binds m x = m x
  | [], _, _ => rfl
  | (n, v) :: r, m, h => by
    unfold bindC
    rw [bindC_out fun w hw => h w (List.mem_cons_of_mem _ hw)]
    split
    · rfl
    · have : x ≠ n := by rintro rfl; exact h v List.mem_cons_self
      simp [this]
theorem bindL_get {kindOf : Str → Option NameKind} {x : Str} {v : Value} : ∀ {P : List Str} {vs : List Value} {i : Nat} {m : Str → Option Value}, P.Nodup → P[i]? = some x → vs[i]? = some v → kindOf x = some .local →
    bindL kindOf (P.zip vs) m x = some v
  | [], _, _, _, _, h, _, _ => by simp at h
  | _ :: _, [], _, _, _, _, h, _ => by simp at h
  | p :: P, w :: vs, 0, m, nd, h1, h2, hk => by
    simp at h1 h2; subst h1; subst h2
    show bindL kindOf ((p, w) :: P.zip vs) m p = _
    unfold bindL
    rw [bindL_out fun v hv => (List.nodup_cons.mp nd).1 (List.of_mem_zip hv).1, if_pos hk]
    simp
  | p :: P, w :: vs, i + 1, m, nd, h1, h2, hk => by
    show bindL kindOf ((p, w) :: P.zip vs) m x = _
    unfold bindL
    exact bindL_get (i := i) (List.nodup_cons.mp nd).2 (by simpa using h1) (by simpa using h2) hk
theorem bindC_get {kindOf : Str → Option NameKind} {x : Str} {v : Value} : ∀ {P : List Str} {vs : List Value} {i : Nat} {m : Str → Option Value}, P.Nodup → P[i]? = some x → vs[i]? = some v → kindOf x ≠ some .local →
    bindC kindOf (P.zip vs) m x = some v
  | [], _, _, _, _, h, _, _ => by simp at h
  | _ :: _, [], _, _, _, _, h, _ => by simp at h
  | p :: P, w :: vs, 0, m, nd, h1, h2, hk => by
    simp at h1 h2; subst h1; subst h2
    show bindC kindOf ((p, w) :: P.zip vs) m p = _
    unfold bindC
    rw [bindC_out fun v hv => (List.nodup_cons.mp nd).1 (List.of_mem_zip hv).1, if_neg hk]
    simp
  | p :: P, w :: vs, i + 1, m, nd, h1, h2, hk => by
    show bindC kindOf ((p, w) :: P.zip vs) m x = _
    unfold bindC
    exact bindC_get (i := i) (List.nodup_cons.mp nd).2 (by simpa using h1) (by simpa using h2) hk
def start (N : List Str) (vs : List V) : St := vs.map some ++ List.replicate (N.length - vs.length) none
def cxOf (CX : CXT) (P : Program) (w : World) (K : PySem.W.Frag) (mg : Str → Option Value) (base : Heap) (N : List Str) (qual : Str) (scope : Scope) (f : Addr) (cd : Value) (A : Around) (outer : List Env) (s : Shared) (H : Hp) (E : XK) : Cx where
  prog := P
  w := w
  K := K
  mg := mg
  base := base
  A := A.deeper (envOfC qual scope s.heap.objs.size f cd)
  N := N
  s_0 := s
  H_0 := H
  env := envOfC qual scope s.heap.objs.size f cd
  outer := outer
  stack := envOfC qual scope s.heap.objs.size f cd :: outer
  ex := []
  calm := true
  fn := fun _ => true
  pn := []
  xe := fun e s' => wpAny (model P w) (A.deeper (envOfC qual scope s.heap.objs.size f cd)) (leaving (envOfC qual scope s.heap.objs.size f cd) e) (fun _ s'' => CX outer H s E e s'') (fun e' s'' => CX outer H s E e' s'') s'
theorem cell_has {sc : Scope} {n : Nat} {x : Str} (h : sc.names.lookup x = some .cell) : ∃ c, (cellsFrom n sc.names []).lookup x = some c := by
  have q := PySem.W.cellsFrom_some sc.names n [] (.inl h)
  exact Option.isSome_iff_exists.mp q
theorem inv_start {CX : CXT} {P : Program} {w : World} {K : PySem.W.Frag} {mg : Str → Option Value} {base : Heap} {N ps : List Str} {qual : Str} {scope : Scope} {f : Addr} {cd : Value} {A : Around} {outer : List Env} {s s1 : Shared} {H : Hp} {E : XK} {us : List Value} {vs : List V}
    (S : FnScope N ps scope) (hd : A.handled = none) (e0 : Env0 P w K mg base A outer s H) (hl : vs.length = ps.length) (r : Vals vs us)
    (x : InCallC s s.heap.objs.size (bindL (envOfC qual scope s.heap.objs.size f cd).kindOf (ps.zip us) fun _ => none) (cellsFrom (s.heap.objs.size + 1) scope.names []) (bindC (envOfC qual scope s.heap.objs.size f cd).kindOf (ps.zip us) fun _ => none) s1) :
    Inv (cxOf CX P w K mg base N qual scope f cd A outer s H E) [] (start N vs) H s1 := by
  have hpl : ps.length ≤ N.length := by have := congrArg List.length S.pre; rw [List.length_take] at this; omega
  obtain ⟨h1, tk, rfl, hk⟩ := x.done
  have noA : ∀ b : Addr, b ∉ (cxOf CX P w K mg base N qual scope f cd A outer s H E).ex := fun b z => absurd (show b ∈ ([] : List Addr) from z) (by simp)
  refine ⟨⟨e0.mod, S.kind, rfl, rfl, Nat.le_refl _, fun y z c h1 h2 => ?_, fun y hy => ?_, fun y c _ h => ?_, fun _ => hd, Around.frames_deeper e0.frames, .inr ⟨rfl, rfl⟩, fun b z => absurd z (noA b), e0.bs, e0.bsz, fun b _ _ => noA b, fun b z => absurd z (noA b), e0.funs, e0.frf⟩,
    rfl, e0.bare, Un.kept hk, ⟨_, x.toInCall.ns, fun i y v h1 h2 h3 => ?_⟩, fun y c h => ⟨_, x.cell y c h⟩, e0.hok.fresh (Nat.le_refl _), fun y c h => ?_, fun p hp => absurd (show p ∈ ([] : List (Addr × Obj)) from hp) (by simp), e0.hok.kept hk, ?_⟩
  · exact name_of_addr x.apart (PySem.mem_of_lookup h1) (PySem.mem_of_lookup h2)
  · have hy : scope.names.lookup y = some .cell ∨ scope.names.lookup y = some .free := hy
    rcases hy with hy | hy
    · exact cell_has hy
    · exact absurd rfl (S.nofree _ (PySem.mem_of_lookup hy))
  · exact Nat.le_of_lt (x.above y c (PySem.mem_of_lookup h))
  · have hi : i < vs.length := by
      unfold start at h2
      by_cases hi : i < vs.length
      · exact hi
      · rw [List.getElem?_append_right (by simpa using hi)] at h2
        rw [List.getElem?_replicate] at h2
        split at h2 <;> cases h2
    have ha : vs[i]? = some v := by
      unfold start at h2
      rw [List.getElem?_append_left (by simpa using hi), List.getElem?_map] at h2
      cases e : vs[i]? with
      | none => rw [e] at h2; cases h2
      | some a => rw [e] at h2; cases h2; rfl
    obtain ⟨u, hu, rv⟩ := r.get ha
    have hp : ps[i]? = some y := by
      rw [← S.pre, List.getElem?_take_of_lt (by omega)]; exact h1
    have ndP : ps.Nodup := by rw [← S.pre]; exact S.nd.sublist (List.take_sublist _ _)
    refine ⟨u, rv, ?_⟩
    rcases S.par y (List.mem_of_getElem? hp) with k | k
    · exact .inl ⟨k, bindL_get ndP hp hu k⟩
    · obtain ⟨c, e⟩ := cell_has (n := s.heap.objs.size + 1) k
      refine .inr ⟨.inl k, c, e, ?_⟩
      have q := x.cell y c e
      rw [bindC_get ndP hp hu (by show scope.names.lookup y ≠ _; rw [k]; decide)] at q
      exact q
  · exact e0.hok.fresh (Nat.le_of_lt (x.above y c (PySem.mem_of_lookup h)))
  · unfold start
    show _ = N.length
    rw [List.length_append, List.length_map, List.length_replicate]
    omega
theorem fn_of {CX : CXT} {P : Program} {w : World} {K : PySem.W.Frag} {mg : Str → Option Value} {base : Heap} {k : Nat} {f : Addr} {name qual : Str} {params : Arguments} {body : List Stmt} {scope : Scope} {dV kV doc pm cdv ct oc : Value} {an od : Option Addr}
    {osl : Array (Option Value)} {N ps : List Str} {sp : Sp} (lk : K.lookup f = some ⟨oc, od, .func (PySem.W.fnOf name qual params body scope dV kV doc pm an cdv ct), osl⟩) (hcd : PySem.W.codeIn K cdv qual = true) (S : FnScope N ps scope)
    (len : ∀ vs H Q E, sp vs H Q E → vs.length = ps.length)
    (hbody : ∀ (A : Around) (outer : List Env) (s : Shared) (H : Hp) (vs : List V) (Q : VK) (E : XK), Room k (A.deeper (envOfC qual scope s.heap.objs.size f cdv)) → sp vs H Q E →
      ∃ t, PSs (cxOf CX P w K mg base N qual scope f cdv A outer s H E) body t ∧ t { nx := fun _ H' => Q .non H', rt := Q } (start N vs) H) :
    FnOk P w K mg base CX (k + 1) f (PySem.W.fnOf name qual params body scope dV kV doc pm an cdv ct) ps sp := by
  refine ⟨len, fun A outer s H args us vs Q E hr e0 hb r hsp => ?_⟩
  have hl := len _ _ _ _ hsp
  have KX : K.In s.heap := e0.mod.kin.keeps fun b o e => (e0.bs b o e).1
  have lim : s.heap.NoLimit := e0.mod.nolimit.keeps fun b o e => (e0.bs b o e).1
  have hkind : ∀ y ∈ ps.zip us, scope.names.lookup y.1 = some .local ∨ (scope.names.lookup y.1 = some .cell ∧ ((cellsFrom (s.heap.objs.size + 1) scope.names []).lookup y.1).isSome = true) := fun ⟨n, v⟩ hy => by
    rcases S.par n (List.of_mem_zip hy).1 with q | q
    · exact .inl q
    · exact .inr ⟨q, PySem.W.cellsFrom_some _ _ _ (.inl q)⟩
  refine codeAny_call_function hr.depth (KX _ _ lk) rfl S.co S.gen rfl (PySem.W.codeRec_of KX hcd) (hb _ _ _ _ ?_)
  refine wpAny_newFunctionEnv_cells S.kind hkind fun env he s1 x => ?_
  subst he
  refine ⟨lim.keeps x.toInCall.keep, codeAny_func ?_⟩
  obtain ⟨t, ht, hq⟩ := hbody A outer s H vs Q E (hr.deeper _) hsp
  have I : Inv (cxOf CX P w K mg base N qual scope f cdv A outer s H E) [] (start N vs) H s1 := inv_start S hr.hd e0 hl r x
  refine wpAny_mono (ht [] s1 (start N vs) H _ I hq) (fun fl s' hs => ?_) fun e s' hs => hs
  have fin : ∀ {σ' : St} {H' : Hp} {v : V} {u : Value}, Inv (cxOf CX P w K mg base N qual scope f cdv A outer s H E) [] σ' H' s' → RelV v u → Q v H' → CE outer P w H s Q u s' :=
    fun {σ' H' v u} J rv q => ⟨v, H', J.os, J.bare, J.base, J.hok, rv, q⟩
  cases fl with
  | ret u =>
    obtain ⟨v, σ', H', J, rv, q⟩ := hs
    exact fin J rv q
  | next =>
    obtain ⟨σ', H', J, q⟩ := hs
    exact fin (v := V.non) (u := Value.none) J rfl q
  | brk =>
    obtain ⟨_, _, _, q⟩ := hs
    exact False.elim q
  | cont =>
    obtain ⟨_, _, _, q⟩ := hs
    exact False.elim q
end L2
namespace L2
open PySem PySem.Spec PyProof.Rows
section
variable {X : Cx} {x : Str} {p pos : Pos} {e : Expr} {es : List Expr} {t : TA} {id T : String} {r : List V → Hp → VK → Prop}
def tCB (r : List V → Hp → VK → Prop) (t : TA) : TE := fun σ H Q => t σ H fun vs H1 => r vs H1 Q
theorem pe_callB (hc : CallR X (.builtin id) r) (hg : Gl X x) (hm : X.mg x = none) (hv : bootBuiltins x = some (.builtin id)) (ha : PA X (e :: es) t) (hn : x ≠ "__name__" := by decide) (hdb : (x == ("__debug__" : Str)) = false := by decide)
    (he : starEach (e :: es) X.env = (false, eval e X.env) :: starEach es X.env := by rfl) (hpl : (backTo pos (starEach es X.env)).any (·.1) = false := by rfl) : PE X (.Call (.Name x p) (e :: es) [] pos) (tCB r t) := by
  intro pins s σ H Q I h
  refine wpAny_Call_Name_kw (ld_blt I hg hm hv ?_ hn hdb)
  exact PyProof.Rows.callWith_builtin1 (thn (ha pos pins s σ H _ I h) fun us s1 ⟨vs, H1, I1, r1, q1⟩ => hc pins s1 σ H1 vs us Q I1 r1 q1) he hpl
theorem pe_callTy (hc : CallR X (.type T) r) (hg : Gl X x) (hm : X.mg x = none) (hv : bootBuiltins x = some (.type T)) (ha : PA X (e :: es) t) (hn : x ≠ "__name__" := by decide) (hdb : (x == ("__debug__" : Str)) = false := by decide)
    (he : starEach (e :: es) X.env = (false, eval e X.env) :: starEach es X.env := by rfl) (hpl : (backTo pos (starEach es X.env)).any (·.1) = false := by rfl) : PE X (.Call (.Name x p) (e :: es) [] pos) (tCB r t) := by
  intro pins s σ H Q I h
  refine wpAny_Call_Name_kw (ld_blt I hg hm hv ?_ hn hdb)
  exact PyProof.Rows.callWith_type1 (thn (ha pos pins s σ H _ I h) fun us s1 ⟨vs, H1, I1, r1, q1⟩ => hc pins s1 σ H1 vs us Q I1 r1 q1) he hpl
end
end L2
namespace HT
open PySem PyProof.Rows
section
open PySem.SeqAt
open PySem.AutoSeq1 (wpAny_loadPart')
open PySem.MeetsSeq PySem.MeetsSeq2 PySem.MeetsSeq3
end
section
variable {prog : Program} {w : World} {A : Around} {E : Value → Shared → Prop} {s : Shared}
def sIx (n d : Nat) : Option Int → Nat
  | none => d
  | some v => if v < 0 then (v + (n : Int)).toNat else min v.toNat n
theorem sIx_none (n d : Nat) : sIx n d none = d := rfl
theorem sIx_nat (n d k : Nat) : sIx n d (some (k : Int)) = min k n := by
  show (if (k : Int) < 0 then ((k : Int) + (n : Int)).toNat else min (k : Int).toNat n) = min k n
  rw [if_neg (by omega), Int.toNat_natCast]
end
end HT
namespace L2
open PySem PySem.Spec PyProof.Rows
abbrev TO := St → Hp → (Option Int → Hp → Prop) → Prop
def PO (X : Cx) (e : Option Expr) (t : TO) : Prop :=
  ∀ (pins : List (Addr × Obj)) (s : Shared) (σ : St) (H : Hp) (Q : Option Int → Hp → Prop), Inv X pins σ H s → t σ H Q →
    wpAny (model X.prog X.w) X.A (evalPart e X.env) (fun u s' => ∃ o H', Inv X pins σ H' s' ∧ IsPart u o ∧ Q o H') X.xe s
def tNoPart : TO := fun _ H Q => Q none H
def tPart (t : TE) : TO := fun σ H Q => t σ H fun x H1 => ∃ i, x = .int i ∧ Q (some i) H1
section
variable {X : Cx} {e : Expr} {te : TE} {lo hi : Option Expr} {tl th : TO} {pos p2 : Pos}
theorem po_none : PO X none tNoPart := by
  intro pins s σ H Q I h
  rw [evalPart_none]
  exact wpAny_pure ⟨none, H, I, .none, h⟩
theorem po_some (h : PE X e te) : PO X (some e) (tPart te) := by
  intro pins s σ H Q I hw
  rw [evalPart_some]
  refine thn (h pins s σ H _ I hw) fun u s1 ⟨x, H1, I1, r1, q1⟩ => ?_
  obtain ⟨i, rfl, q⟩ := q1
  obtain ⟨t, rfl⟩ := r1
  exact ⟨some i, H1, I1, .int i t, q⟩
def SlR (X : Cx) (r : V → Option Int → Option Int → Hp → VK → Prop) : Prop :=
  ∀ (pins : List (Addr × Obj)) (s : Shared) (σ : St) (H : Hp) (x : V) (v vl vu : Value) (lo hi : Option Int) (sl : Addr) (Q : VK), Inv X pins σ H s → RelV x v → s.heap.IsSliceOf sl vl vu .none → IsPart vl lo → IsPart vu hi → r x lo hi H Q →
    ∃ T id, typeLookup (.type T) "__getitem__" = pure (some (.builtin id)) ∧ s.TypeIs v T ∧ wpAny (model X.prog X.w) X.A (getItem v (.ref sl)) (EP X pins σ Q) X.xe s
def tSl (r : V → Option Int → Option Int → Hp → VK → Prop) (te : TE) (tl th : TO) : TE := fun σ H Q => te σ H fun x H1 => tl σ H1 fun l H2 => th σ H2 fun u H3 => r x l u H3 Q
theorem pe_slice {r : V → Option Int → Option Int → Hp → VK → Prop} (hr : SlR X r) (he : PE X e te) (hl : PO X lo tl) (hu : PO X hi th) : PE X (.Subscript e (.Slice lo hi none p2) pos) (tSl r te tl th) := by
  intro pins s σ H Q I h
  refine Subscript_ (thn (he pins s σ H _ I h) fun v s1 ⟨x, H1, I1, r1, q1⟩ => ?_)
  refine wpAny_Slice (thn (hl pins s1 σ H1 _ I1 q1) fun vl s2 ⟨l, H2, I2, pl, q2⟩ => thn (hu pins s2 σ H2 _ I2 q2) fun vu s3 ⟨u, H3, I3, pu, q3⟩ => ?_)
  rw [evalPart_none]
  refine wpAny_pure ?_
  have I4 : Inv X pins σ H3 { s3 with heap := s3.heap.push { cls := .type "slice", data := .fields #[vl, vu, .none] } } := I3.kept (t' := s3.toks) fun b ob q => Heap.get?_push_of_some _ q
  obtain ⟨T, id, hT, ht, hg⟩ := hr pins { s3 with heap := s3.heap.push { cls := .type "slice", data := .fields #[vl, vu, .none] } } σ H3 x v vl vu l u s3.heap.objs.size Q I4 r1 (Heap.IsSliceOf.new ..) pl pu q3
  show wpAny (model X.prog X.w) X.A (subscriptTail e (.Slice lo hi none p2) v (.ref s3.heap.objs.size)) (EP X pins σ Q) X.xe { s3 with heap := s3.heap.push { cls := .type "slice", data := .fields #[vl, vu, .none] } }
  exact tail_any (ops := [.ref s3.heap.objs.size, v]) ht hT hg (by with_unfolding_all rfl)
def cutV (xs : List V) (lo hi : Option Int) : List V := (xs.drop (HT.sIx xs.length 0 lo)).take (HT.sIx xs.length xs.length hi - HT.sIx xs.length 0 lo)
theorem cutV_length (xs : List V) (lo hi : Option Int) : (cutV xs lo hi).length ≤ xs.length := by
  unfold cutV
  rw [List.length_take, List.length_drop]
  omega
end
end L2
namespace L2
open PySem PySem.Spec PyProof.Rows
def ixN (n : Nat) (i : Int) : Option Nat := if 0 ≤ i then (if i < n then some i.toNat else none) else if -(n : Int) ≤ i then some (i + n).toNat else none
def atI {α : Type} (xs : List α) (i : Int) : Option α := (ixN xs.length i).bind fun j => xs[j]?
theorem ixN_seq {n : Nat} {i : Int} {j : Nat} (h : ixN n i = some j) : seqIndex? i n = some j ∧ j < n ∧ -(n : Int) ≤ i ∧ i < n := by
  unfold ixN at h
  by_cases h0 : 0 ≤ i
  · rw [if_pos h0] at h
    by_cases h1 : i < n
    · rw [if_pos h1] at h
      have e : i.toNat = j := Option.some.inj h
      exact ⟨by rw [seqIndex_of h0 h1, e], by omega, by omega, h1⟩
    · rw [if_neg h1] at h; cases h
  · rw [if_neg h0] at h
    by_cases h1 : -(n : Int) ≤ i
    · rw [if_pos h1] at h
      have e : (i + n).toNat = j := Option.some.inj h
      exact ⟨by rw [seqIndex_neg (by omega) h1, e], by omega, h1, by omega⟩
    · rw [if_neg h1] at h; cases h
theorem atI_get {α : Type} {xs : List α} {i : Int} {v : α} (h : atI xs i = some v) : ∃ j, seqIndex? i xs.length = some j ∧ xs[j]? = some v ∧ j < xs.length ∧ -(xs.length : Int) ≤ i ∧ i < xs.length := by
  unfold atI at h
  cases e : ixN xs.length i with
  | none => rw [e] at h; cases h
  | some j =>
    rw [e] at h
    obtain ⟨h1, h2, h3, h4⟩ := ixN_seq e
    exact ⟨j, h1, h, h2, h3, h4⟩
theorem atI_nat {α : Type} {xs : List α} {j : Nat} {v : α} (h : xs[j]? = some v) : atI xs (j : Int) = some v := by
  have hj : j < xs.length := (List.getElem?_eq_some_iff.mp h).1
  have e : ixN xs.length (j : Int) = some j := by
    unfold ixN
    rw [if_pos (by omega), if_pos (by omega)]; simp
  unfold atI; rw [e]; exact h
def PlainIx (b : Expr) : Prop := ∀ o i, subscripted b false o i = operate [o, i] (getItem o i)
def IxR (X : Cx) (r : R2) : Prop :=
  ∀ (value slice : Expr) (pins : List (Addr × Obj)) (s : Shared) (σ : St) (H : Hp) (x y : V) (v u : Value) (Q : VK), Inv X pins σ H s → RelV x v → RelV y u → r x y H Q →
    subscripted slice false v u = operate [v, u] (getItem v u) → wpAny (model X.prog X.w) X.A (subscriptTail value slice v u) (EP X pins σ Q) X.xe s
def MtR (X : Cx) (id : String) (r : V → List V → Hp → VK → Prop) : Prop :=
  ∀ (pins : List (Addr × Obj)) (s : Shared) (σ : St) (H : Hp) (x : V) (xs : List V) (v : Value) (us : List Value) (Q : VK), Inv X pins σ H s → RelV x v → Vals xs us → r x xs H Q →
    wpAny (model X.prog X.w) X.A (call (.builtin id) (v :: us)) (EP X pins σ Q) X.xe s
section
variable {X : Cx} {a b : Expr} {ta tb : TE} {pos : Pos}
theorem pe_ix {r : R2} (hr : IxR X r) (ha : PE X a ta) (hb : PE X b tb) (hs : PlainIx b) : PE X (.Subscript a b pos) (tOp r ta tb) := by
  intro pins s σ H Q I h
  exact Subscript_ (binT ha hb I h fun v u s2 x y H2 I2 rx ry q => hr a b pins s2 σ H2 x y v u Q I2 rx ry q (hs _ _))
def rIxL (K : PySem.W.Frag) : R2 := fun x y H Q => ∃ p xs i v, x = .ref p ∧ y = .int i ∧ SqL K H p xs ∧ atI xs i = some v ∧ Q v H
def rIxT (K : PySem.W.Frag) : R2 := fun x y H Q => ∃ p xs i v, x = .ref p ∧ y = .int i ∧ SqT K H p xs ∧ atI xs i = some v ∧ Q v H
theorem ix_list : IxR X (rIxL X.K) := by
  intro value slice pins s σ H x y v u Q I rx ry h hs
  obtain ⟨p, xs, i, z, rfl, rfl, hq, he, q⟩ := h
  cases rx
  obtain ⟨t, rfl⟩ := ry
  obtain ⟨its, r, pl, hz⟩ := I.list hq
  obtain ⟨j, h1, h2, h3, h4, h5⟩ := atI_get he
  obtain ⟨w, ew, rw'⟩ := r.get h2
  have hl := r.length
  have hn := line63
  have fin : EP X pins σ Q w s := ⟨z, H, I, rw', q⟩
  by_cases h0 : 0 ≤ i
  · have hj : i.toNat = j := by
      rw [seqIndex_of h0 h5] at h1
      exact Option.some.inj h1
    exact item_listR pl.isList h0 (by omega) (by rw [hj]; simpa using ew) fin hs
  · have hj : (i + (its.toArray.size : Int)).toNat = j := by
      rw [seqIndex_neg (by omega) h4] at h1
      rw [List.size_toArray, ← hl]
      exact Option.some.inj h1
    exact subscriptTail_builtinR (x := w) pl.isList.typeIs slot_list_getitem.lookup
      (wpAny_getItem_list_neg (Q := fun r s' => r = w ∧ EP X pins σ Q r s') pl.isList (by omega) (by rw [List.size_toArray] <;> omega) (by omega) (by rw [hj]; simpa using ew) ⟨rfl, fin⟩) hs
theorem ix_tup : IxR X (rIxT X.K) := by
  intro value slice pins s σ H x y v u Q I rx ry h hs
  obtain ⟨p, xs, i, z, rfl, rfl, hq, he, q⟩ := h
  cases rx
  obtain ⟨t, rfl⟩ := ry
  obtain ⟨its, r, pl, hz⟩ := I.tuple hq
  obtain ⟨j, h1, h2, h3, h4, h5⟩ := atI_get he
  obtain ⟨w, ew, rw'⟩ := r.get h2
  have hl := r.length
  have hn := line63
  have fin : EP X pins σ Q w s := ⟨z, H, I, rw', q⟩
  exact subscriptTail_builtinR (x := w) pl.typeIs slot_tuple_getitem.lookup
    (getItem_tuple (j := j) (Q := fun r s' => r = w ∧ EP X pins σ Q r s') pl (by omega) (by omega) (by rw [List.size_toArray, ← hl]; exact h1) (by simpa using ew) ⟨rfl, fin⟩) hs
theorem slice_bounds (lo hi : Option Int) (n : Nat) : (sliceBounds lo hi none n).1 = ((HT.sIx n 0 lo : Nat) : Int) ∧ (sliceBounds lo hi none n).2.1 = ((HT.sIx n n hi : Nat) : Int) ∧ (sliceBounds lo hi none n).2.2 = 1 := by
  refine ⟨?_, ?_, rfl⟩
  · cases lo with
    | none => simp [sliceBounds, HT.sIx]
    | some i =>
      simp only [sliceBounds, HT.sIx, Option.getD_none, show (1 : Int) > 0 by decide, if_true]
      by_cases h : i < 0
      · simp only [h, if_true] <;> omega
      · simp only [h, if_false] <;> omega
  · cases hi with
    | none => simp [sliceBounds, HT.sIx]
    | some i =>
      simp only [sliceBounds, HT.sIx, Option.getD_none, show (1 : Int) > 0 by decide, if_true]
      by_cases h : i < 0
      · simp only [h, if_true] <;> omega
      · simp only [h, if_false] <;> omega
theorem slicePick_cut (its : List Value) (lo hi : Option Int) : slicePick its.toArray lo hi none = ((its.drop (HT.sIx its.length 0 lo)).take (HT.sIx its.length its.length hi - HT.sIx its.length 0 lo)).toArray := by
  obtain ⟨h1, h2, h3⟩ := slice_bounds lo hi its.toArray.size
  unfold slicePick
  rw [h1, h2, h3]
  simp only [sliceRange_one, pick_run, List.size_toArray] <;> rfl
def rSlL (K : PySem.W.Frag) : V → Option Int → Option Int → Hp → VK → Prop := fun x lo hi H Q => ∃ a xs, x = .ref a ∧ SqL K H a xs ∧ ∀ p, H p = none → Q (.ref p) (upd H p (.lst (cutV xs lo hi)))
theorem sl_list : SlR X (rSlL X.K) := by
  intro pins s σ H x v vl vu lo hi sl Q I rx hs pl pu h
  obtain ⟨a, xs, rfl, hx, q⟩ := h
  cases rx
  obtain ⟨its, r, ht, hz⟩ := I.list hx
  have hlen := r.length
  refine ⟨"list", _, slot_list_getitem.lookup, ht.isList.typeIs, ?_⟩
  refine wpAny_getItem_list_slice ht.isList hs pl pu .none (by simp) ?_ (by rw [List.size_toArray] <;> omega)
  rw [slicePick_cut, ← hlen]
  refine ⟨.ref s.heap.objs.size, _, I.laid (t' := s.toks) (o := .lst (cutV xs lo hi)) (fun b ob q => Heap.get?_push_of_some _ q) (Nat.le_refl _) ?_, rfl, q _ (I.hok.fresh (Nat.le_refl _))⟩
  exact ⟨Nat.le_trans (cutV_length xs lo hi) hz, _, 0, (r.drop (HT.sIx xs.length 0 lo)).take (HT.sIx xs.length xs.length hi - HT.sIx xs.length 0 lo), Heap.get?_push_size _ rfl⟩
def flatV : V → Bool
  | .non => true
  | .bl _ => true
  | .int _ => true
  | .str _ => true
  | _ => false
def eqV : V → V → Bool
  | .non, .non => true
  | .bl a, .bl b => a == b
  | .bl a, .int b => (if a then 1 else 0) == b
  | .int a, .bl b => a == (if b then 1 else 0)
  | .int a, .int b => a == b
  | .str a, .str b => a == b
  | _, _ => false
theorem eqAt_V {A : Around} {s : Shared} {y x : V} {u v : Value} (ry : RelV y u) (rx : RelV x v) (fy : flatV y = true) (fx : flatV x = true) : SeqAt.EqAt A s u v (eqV y x) := by
  cases y with
  | non =>
    cases ry
    cases x with
    | non => cases rx; exact SeqAt.EqAt.same _
    | bl b => cases rx; exact SeqAt.EqAt.none_bool b
    | int b => obtain ⟨t, rfl⟩ := rx; exact SeqAt.EqAt.none_int b t
    | str b => obtain ⟨t, rfl⟩ := rx; exact SeqAt.EqAt.none_str b t
    | _ => exact absurd (show false = true from fx) Bool.false_ne_true
  | bl a =>
    cases ry
    cases x with
    | non => cases rx; exact SeqAt.EqAt.bool_none a
    | bl b => cases rx; exact SeqAt.EqAt.bool_bool a b
    | int b => obtain ⟨t, rfl⟩ := rx; exact SeqAt.EqAt.bool_int a b t
    | str b => obtain ⟨t, rfl⟩ := rx; exact SeqAt.EqAt.bool_str a b t
    | _ => exact absurd (show false = true from fx) Bool.false_ne_true
  | int a =>
    obtain ⟨t', rfl⟩ := ry
    cases x with
    | non => cases rx; exact SeqAt.EqAt.int_none a t'
    | bl b => cases rx; exact SeqAt.EqAt.int_bool a t' b
    | int b => obtain ⟨t, rfl⟩ := rx; exact SeqAt.EqAt.int_int a t' b t
    | str b => obtain ⟨t, rfl⟩ := rx; exact SeqAt.EqAt.int_str a t' b t
    | _ => exact absurd (show false = true from fx) Bool.false_ne_true
  | str a =>
    obtain ⟨t', rfl⟩ := ry
    cases x with
    | non => cases rx; exact SeqAt.EqAt.str_none a t'
    | bl b => cases rx; exact SeqAt.EqAt.str_bool a t' b
    | int b => obtain ⟨t, rfl⟩ := rx; exact SeqAt.EqAt.str_int a t' b t
    | str b => obtain ⟨t, rfl⟩ := rx; exact SeqAt.EqAt.str_str a t' b t
    | _ => exact absurd (show false = true from fx) Bool.false_ne_true
  | _ => exact absurd (show false = true from fy) Bool.false_ne_true
def eqU (x : V) (u : Value) : Bool := match u with
  | .none => eqV .non x
  | .bool b => eqV (.bl b) x
  | .int i _ => eqV (.int i) x
  | .str z _ => eqV (.str z) x
  | _ => false
theorem eqU_of {x y : V} {u : Value} (r : RelV y u) (f : flatV y = true) : eqU x u = eqV y x := by
  cases y with
  | non => cases r; rfl
  | bl b => cases r; rfl
  | int i => obtain ⟨t, rfl⟩ := r; rfl
  | str z => obtain ⟨t, rfl⟩ := r; rfl
  | _ => exact absurd (show false = true from f) Bool.false_ne_true
theorem mem_eqAt {A : Around} {s : Shared} {x : V} {v : Value} (rx : RelV x v) (fx : flatV x = true) : ∀ {xs : List V} {us : List Value}, Vals xs us → xs.all flatV = true → ∀ u ∈ us, SeqAt.EqAt A s u v (eqU x u)
  | _, _, .nil, _ => fun u hu => by cases hu
  | y :: xs, u :: us, .cons r t, f => fun u' hu => by
    rw [List.all_cons, Bool.and_eq_true] at f
    rcases List.mem_cons.mp hu with rfl | hu
    · rw [eqU_of r f.1]; exact eqAt_V r rx f.1 fx
    · exact mem_eqAt rx fx t f.2 u' hu
theorem call_len_seq : CallR X (.builtin "len") (fun xs H Q => ∃ p ys, xs = [.ref p] ∧ (SqL X.K H p ys ∨ SqT X.K H p ys) ∧ Q (.int ys.length) H) := by
  intro pins s σ H xs us Q I r h
  obtain ⟨p, ys, rfl, hq, q⟩ := h
  obtain ⟨u, rfl, rx⟩ := vals1 r
  cases rx
  have hn := line63
  rcases hq with hq | hq
  · obtain ⟨its, r', pl, hz⟩ := I.list hq
    have hlen := r'.length
    exact Calls.call_len_list pl.isList (by simp only [List.size_toArray] <;> omega) ⟨.int ys.length, H, I.tok _, ⟨s.toks + 1, by rw [List.size_toArray, hlen]⟩, q⟩
  · obtain ⟨its, r', pl, hz⟩ := I.tuple hq
    have hlen := r'.length
    exact len_tuple pl (by simp only [List.size_toArray] <;> omega) ⟨.int ys.length, H, I.tok _, ⟨s.toks + 1, by rw [List.size_toArray, hlen]⟩, q⟩
theorem call_tuple_of : CallR X (.type "tuple") (fun xs H Q => ∃ p ys, xs = [.ref p] ∧ ((SqL X.K H p ys ∧ ∀ l, H l = none → Q (.ref l) (upd H l (.tup ys))) ∨ (SqT X.K H p ys ∧ Q (.ref p) H))) := by
  intro pins s σ H xs us Q I r h
  obtain ⟨p, ys, rfl, h⟩ := h
  obtain ⟨u, rfl, rx⟩ := vals1 r
  cases rx
  rcases h with ⟨hq, q⟩ | ⟨hq, q⟩
  · obtain ⟨its, r', pl, hz⟩ := I.list hq
    have hlen := r'.length
    refine call_tuple_list pl.isList (fun h' kp => ?_) (by simp only [List.size_toArray] <;> omega)
    have I1 : Inv X pins σ H { s with heap := h' } := I.kept (t' := s.toks) kp
    have I2 : Inv X pins σ (upd H h'.objs.size (.tup ys)) { s with heap := h'.push { cls := .type "tuple", data := .seq its.toArray } } :=
      I1.laid (t' := s.toks) (fun b o e => Heap.get?_push_of_some _ e) (Nat.le_refl _) (show ObjOk X.prog X.w _ _ _ (.tup ys) from ⟨hz, its, r', IsTup.new _ _⟩)
    exact ⟨.ref h'.objs.size, _, I2, rfl, q _ (I1.hok.fresh (Nat.le_refl _))⟩
  · obtain ⟨its, r', pl, hz⟩ := I.tuple hq
    exact call_tuple_same pl ⟨.ref p, H, I, rfl, q⟩
def tyV (K : PySem.W.Frag) (T : String) (x : V) (H : Hp) : Prop := match x with
  | .str _ => T = "str"
  | .int _ => T = "int"
  | .ref p => (T = "list" ∧ ∃ xs, SqL K H p xs) ∨ (T = "tuple" ∧ ∃ o, K.lookup p = some o ∧ o.cls = .type "tuple" ∧ o.dict = none) ∨
      (T = "dict" ∧ ((∃ kvs, H p = some (.dK kvs)) ∨ ∃ kvs, H p = some (.dT kvs))) ∨ (T = "set" ∧ ∃ S n, H p = some (.set S n))
  | _ => False
theorem tyV_is {pins : List (Addr × Obj)} {σ : St} {H : Hp} {s : Shared} {T : String} {x : V} {v : Value} (I : Inv X pins σ H s) (r : RelV x v) (ty : tyV X.K T x H) :
    s.TypeIs v T ∧ ∀ a, v = .ref a → ∃ ob, s.heap.get? a = some ob ∧ ob.dict = none := by
  cases x with
  | str z =>
    obtain ⟨t, rfl⟩ := r
    cases (show T = "str" from ty)
    exact ⟨typeIs_str s z t, fun _ e => nomatch e⟩
  | int i =>
    obtain ⟨t, rfl⟩ := r
    cases (show T = "int" from ty)
    exact ⟨typeIs_int s i t, fun _ e => nomatch e⟩
  | ref p =>
    cases r
    rcases ty with ⟨rfl, xs, hq⟩ | ⟨rfl, o, hk, hc, hd⟩ | ⟨rfl, hk⟩ | ⟨rfl, S, n, hk⟩
    · obtain ⟨its, _, pl, _⟩ := I.list hq
      refine ⟨pl.isList.typeIs, fun a e => ?_⟩
      cases e
      obtain ⟨o, n, e, c, hd, _⟩ := pl
      exact ⟨o, e, hd⟩
    · refine ⟨⟨o, I.kIn p o hk, hc⟩, fun a e => ?_⟩
      cases e
      exact ⟨o, I.kIn _ o hk, hd⟩
    · have z : ∃ o, s.heap.get? p = some o ∧ o.ExactDict := by
        rcases hk with ⟨kvs, hk⟩ | ⟨kvs, hk⟩
        · obtain ⟨_, _, _, _, o, _, _, e, ex, _⟩ := I.hok p _ hk
          exact ⟨o, e, ex⟩
        · obtain ⟨_, _, _, _, o, _, _, e, ex, _⟩ := I.hok p _ hk
          exact ⟨o, e, ex⟩
      obtain ⟨o, e, ex⟩ := z
      refine ⟨⟨o, e, ex.1⟩, fun a e2 => ?_⟩
      cases e2
      exact ⟨o, e, ex.2.1⟩
    · obtain ⟨o, _, _, _, e, ex, _⟩ := I.hok p _ hk
      refine ⟨⟨o, e, ex.1⟩, fun a e2 => ?_⟩
      cases e2
      exact ⟨o, e, ex.2.1⟩
  | _ => exact False.elim ty
def tBM0 (K : PySem.W.Frag) (T : String) (r : V → List V → Hp → VK → Prop) (to : TE) : TE := fun σ H Q => to σ H fun x H1 => tyV K T x H1 ∧ r x [] H1 Q
def tBM (K : PySem.W.Frag) (T : String) (r : V → List V → Hp → VK → Prop) (to : TE) (t : TA) : TE := fun σ H Q => to σ H fun x H1 => tyV K T x H1 ∧ t σ H1 fun xs H2 => r x xs H2 Q
variable {o e : Expr} {es : List Expr} {to : TE} {t : TA} {name : Str} {apos cpos : Pos} {T id : String} {r : V → List V → Hp → VK → Prop}
theorem pe_bm0 (pa : PlainAttrs T) (slot : Slot T name id) (hty : typeOf (.builtin id) = pure (.type "method_descriptor")) (hm : MtR X id r) (ho : PE X o to)
    (hbase : attributeBase o name X.env (eval o X.env) = eval o X.env := by rfl) (hline : (apos.endLine == cpos.line) = true := by rfl) : PE X (.Call (.Attribute o name apos) [] [] cpos) (tBM0 X.K T r to) := by
  intro pins s σ H Q I h
  refine wpAny_Call_method0_late hbase hline (thn (ho pins s σ H _ I h) fun v s1 ⟨x, H1, I1, r1, ty, q1⟩ => ?_)
  obtain ⟨h1, h2⟩ := tyV_is I1 r1 ty
  exact ⟨T, id, pa, slot, hty, h1, h2, Calls.callWith_builtin rfl (PySem.evalArgs_none (hm pins s1 σ H1 x [] v [] Q I1 r1 .nil q1))⟩
theorem pe_bm (pa : PlainAttrs T) (slot : Slot T name id) (hty : typeOf (.builtin id) = pure (.type "method_descriptor")) (hm : MtR X id r) (ho : PE X o to) (ha : PA X (e :: es) t)
    (hbase : attributeBase o name X.env (eval o X.env) = eval o X.env := by rfl)
    (hfew : ((backTo cpos (starEach (e :: es) X.env)).all (fun x => !x.1) && (backToKw cpos (keywordEach [] X.env)).all (fun x => x.1.isSome)
      && decide ((e :: es).length + ([] : List Keyword).length + (if ([] : List Keyword).isEmpty then 0 else 1) < 30)) = true := by rfl)
    (hline : (apos.endLine == cpos.line) = true := by rfl) (hs : starEach (e :: es) X.env = (false, eval e X.env) :: starEach es X.env := by rfl) (hplain : (backTo cpos (starEach es X.env)).any (·.1) = false := by rfl) :
    PE X (.Call (.Attribute o name apos) (e :: es) [] cpos) (tBM X.K T r to t) := by
  intro pins s σ H Q I h
  refine wpAny_Call_method_late hbase hfew hline rfl (thn (ho pins s σ H _ I h) fun v s1 ⟨x, H1, I1, r1, ty, q1⟩ => ?_)
  obtain ⟨h1, h2⟩ := tyV_is I1 r1 ty
  refine ⟨T, id, pa, slot, hty, h1, h2, ?_⟩
  have hA := ha cpos pins s1 σ H1 _ I1 q1
  rw [hs] at hA ⊢
  refine Calls.callWith_builtin (by show (false || (backTo cpos (starEach es X.env)).any (·.1)) = false; rw [hplain] <;> rfl) (Calls.evalArgs_plain ?_)
  exact thn hA fun us s2 ⟨vs, H2, I2, r2, q2⟩ => hm pins s2 σ H2 x vs v us Q I2 r1 r2 q2
end
end L2
namespace L2
open PySem PySem.Spec PyProof.Rows
def MtM (X : Cx) (id : String) (r : V → List V → Hp → VK → Prop) : Prop :=
  ∀ (pins : List (Addr × Obj)) (s : Shared) (σ : St) (H : Hp) (x : V) (xs : List V) (v : Value) (us : List Value) (Q : VK), Inv X pins σ H s → RelV x v → Vals xs us → r x xs H Q →
    wpAny (model X.prog X.w) X.A (call (.builtin id) (v :: us)) (EP X pins σ Q) X.xe s
theorem Vals.one : ∀ {x : V} {us : List Value}, Vals [x] us → ∃ u, us = [u] ∧ RelV x u
  | _, _, .cons r .nil => ⟨_, rfl, r⟩
theorem Vals.zero : ∀ {us : List Value}, Vals [] us → us = []
  | _, .nil => rfl
theorem Vals.dropLast {xs : List V} {us : List Value} (h : Vals xs us) : Vals xs.dropLast us.dropLast := by
  induction h with
  | nil => exact .nil
  | cons r t ih =>
    cases t with
    | nil => exact .nil
    | cons q t' => exact .cons r ih
theorem erase_last {α : Type} (l : List α) : l.eraseIdx (l.length - 1) = l.dropLast := by
  induction l with
  | nil => rfl
  | cons a r ih =>
    cases r with
    | nil => rfl
    | cons b r =>
      have e : (a :: b :: r).length - 1 = ((b :: r).length - 1) + 1 := by
        have h1 : (a :: b :: r).length = r.length + 2 := rfl
        have h2 : (b :: r).length = r.length + 1 := rfl
        omega
      rw [e, List.eraseIdx_cons_succ, ih]
      all_goals rfl
section
variable {X : Cx} {pins : List (Addr × Obj)} {σ : St} {H : Hp} {s : Shared} {l b : Addr} {xs ys zs : List V}
theorem Inv.lset {its its' : List Value} {n : Nat} {f : Array Value → Array Value} {t' : Nat} (I : Inv X pins σ H s) (hH : H l = some (.lst xs))
    (e : s.heap.get? l = some { cls := .type "list", data := .seq its.toArray n }) (hf : f its.toArray = its'.toArray) (hv : Vals ys its') (hz : ys.length ≤ sizeLine) :
    Inv X pins σ (upd H l (.lst ys)) { s with heap := s.heap.update l (Obj.mapSeq f), toks := t' } := by
  have q := PySem.IsL.update e f
  rw [hf] at q
  refine I.write (x := l) (e := l) (by rw [hH]; exact trivial) (.inl rfl) (fun b' u hb hu => (Heap.get?_update_other s.heap (Obj.mapSeq f) (Ne.symm hb)).trans hu) ⟨_, q⟩ ?_
  exact ⟨hz, its', _, hv, q⟩
theorem Inv.lnew {its : List Value} {t' : Nat} (I : Inv X pins σ H s) (hv : Vals ys its) (hz : ys.length ≤ sizeLine) :
    Inv X pins σ (upd H s.heap.objs.size (.lst ys)) { s with heap := s.heap.push { cls := .type "list", data := .seq its.toArray }, toks := t' } :=
  I.laid (fun _ _ q => Heap.get?_push_of_some _ q) (Nat.le_refl _) ⟨hz, its, 0, hv, Heap.get?_push_size _ rfl⟩
theorem Inv.fresh (I : Inv X pins σ H s) : H s.heap.objs.size = none := I.hok.fresh (Nat.le_refl _)
theorem Inv.lstM (I : Inv X pins σ H s) (hH : H l = some (.lst xs)) : xs.length ≤ sizeLine ∧ ∃ (its : List Value) (n : Nat), Vals xs its ∧ xs.length = its.length ∧ s.heap.get? l = some { cls := .type "list", data := .seq its.toArray n } := by
  obtain ⟨z, its, n, r, e⟩ := I.hok l _ hH
  exact ⟨z, its, n, r, r.length, e⟩
theorem notLongL {n : Nat} (h : n ≤ sizeLine) : Builtin.List.listTooLong n = false := by
  unfold Builtin.List.listTooLong
  exact decide_eq_false (by omega)
end
section
variable {X : Cx}
def rAppend : V → List V → Hp → VK → Prop := fun x vs H Q => ∃ l xs y, x = .ref l ∧ vs = [y] ∧ H l = some (.lst xs) ∧ xs.length < sizeLine ∧ Q .non (upd H l (.lst (xs ++ [y])))
theorem mt_append : MtM X "list.append" rAppend := by
  intro pins s σ H x vs v us Q I rx rv h
  obtain ⟨l, xs, y, rfl, rfl, hH, hz, q⟩ := h
  cases rx
  obtain ⟨u, rfl, ru⟩ := rv.one
  obtain ⟨z, its, n, r, hl, e⟩ := I.lstM hH
  refine call_meets F.slot_list_append ⟨_, e, rfl⟩ F.entry_list_append (F.args_list_append_2 _ _) (PySem.list_append l its.toArray n u (by rw [List.size_toArray]; omega)) ⟨e, ?_⟩
  refine ⟨.non, _, I.lset (its' := its ++ [u]) hH e (by simp) (r.append (.cons ru .nil)) ?_, rfl, q⟩
  rw [List.length_append, List.length_singleton]
  omega
def rExtend : V → List V → Hp → VK → Prop := fun x vs H Q => ∃ l b xs zs, x = .ref l ∧ vs = [.ref b] ∧ H l = some (.lst xs) ∧ H b = some (.lst zs) ∧ xs.length + zs.length ≤ sizeLine ∧ Q .non (upd H l (.lst (xs ++ zs)))
theorem mt_extend : MtM X "list.extend" rExtend := by
  intro pins s σ H x vs v us Q I rx rv h
  obtain ⟨l, b, xs, zs, rfl, rfl, hH, hB, hz, q⟩ := h
  cases rx
  obtain ⟨u, rfl, ru⟩ := rv.one
  cases ru
  obtain ⟨z, its, n, r, hl, e⟩ := I.lstM hH
  obtain ⟨z2, its2, n2, r2, hl2, e2⟩ := I.lstM hB
  have hsz : its.toArray.size + its2.toArray.size ≤ sizeLine := by rw [List.size_toArray, List.size_toArray]; omega
  have hlong : ¬ (!its.toArray.isEmpty && Builtin.List.listTooLong (its.toArray.size + its2.toArray.size)) = true := by
    rw [notLongL hsz, Bool.and_false]
    exact Bool.false_ne_true
  refine call_meets F.slot_list_extend ⟨_, e, rfl⟩ F.entry_list_extend (F.args_list_extend_2 _ _)
    (AutoSeq1.list_extend_list_list_0 l its.toArray n b its2.toArray n2 hlong (by rw [List.size_toArray]; omega) (by omega)) ⟨e, e2, ?_⟩
  refine ⟨.non, _, I.lset (its' := its ++ its2) hH e (by simp) (r.append r2) ?_, rfl, q⟩
  rw [List.length_append]
  omega
def rPop : V → List V → Hp → VK → Prop := fun x vs H Q => ∃ l xs y, x = .ref l ∧ vs = [] ∧ H l = some (.lst xs) ∧ xs[xs.length - 1]? = some y ∧ Q y (upd H l (.lst xs.dropLast))
theorem mt_pop : MtM X "list.pop" rPop := by
  intro pins s σ H x vs v us Q I rx rv h
  obtain ⟨l, xs, y, rfl, rfl, hH, hy, q⟩ := h
  cases rx
  have hus := rv.zero
  subst hus
  obtain ⟨z, its, n, r, hl, e⟩ := I.lstM hH
  obtain ⟨u, hu, ru⟩ := r.get hy
  have hy' : its.toArray[its.toArray.size - 1]? = some u := by
    show its.toArray[its.length - 1]? = some u
    rw [← Array.getElem?_toList, ← hl]
    exact hu
  refine call_meets F.slot_list_pop ⟨_, e, rfl⟩ F.entry_list_pop (F.args_list_pop_1 _) (MeetsSeq.list_pop_last l its.toArray n u hy' (by rw [List.size_toArray]; omega)) ⟨e, ?_⟩
  refine ⟨y, _, I.lset (its' := its.dropLast) hH e ?_ r.dropLast ?_, ru, q⟩
  · show its.toArray.eraseIdxIfInBounds (its.toArray.size - 1) = its.dropLast.toArray
    rw [List.size_toArray, List.eraseIdxIfInBounds_toArray, erase_last]
  · rw [List.length_dropLast]
    omega
def rCat : R2 := fun x y H Q => ∃ l b xs zs, x = .ref l ∧ y = .ref b ∧ H l = some (.lst xs) ∧ H b = some (.lst zs) ∧ xs.length + zs.length ≤ sizeLine ∧ ∀ p, H p = none → Q (.ref p) (upd H p (.lst (xs ++ zs)))
theorem op_cat : OpR X (binaryOp .Add) rCat := by
  intro pins s σ H x y v u Q I rx ry h
  obtain ⟨l, b, xs, zs, rfl, rfl, hH, hB, hz, q⟩ := h
  cases rx
  cases ry
  obtain ⟨z, its, n, r, hl, e⟩ := I.lstM hH
  obtain ⟨z2, its2, n2, r2, hl2, e2⟩ := I.lstM hB
  refine PySem.P.add_list e e2 ?_ (by rw [List.size_toArray, List.size_toArray]; omega)
  have ea : its.toArray ++ its2.toArray = (its ++ its2).toArray := by simp
  rw [ea]
  exact ⟨.ref _, _, I.lnew (t' := s.toks) (r.append r2) (by rw [List.length_append]; omega), rfl, q _ I.fresh⟩
end
section
variable {prog : Program} {w : World} {A : Around} {E : Value → Shared → Prop} {s : Shared}
set_option maxRecDepth 100000 in
end
section
variable {X : Cx}
end
end L2
namespace L2
open PySem PySem.Spec PyProof.Rows
theorem Vals.ints : ∀ {ns : List Int} {us : List Value}, Vals (ns.map V.int) us → IntsAre us ns
  | [], us, h => by
    rw [List.map_nil] at h
    cases h
    exact IntsAre.nil
  | n :: ns, us, h => by
    rw [List.map_cons] at h
    cases h with
    | cons r t =>
      obtain ⟨k, rfl⟩ := r
      exact IntsAre.cons n k (Vals.ints t)
theorem vals_of_ints : ∀ {us : List Value} {ns : List Int}, IntsAre us ns → Vals (ns.map V.int) us
  | _, _, .nil => by rw [List.map_nil]; exact Paired.nil
  | _, _, .cons n t h => by rw [List.map_cons]; exact Paired.cons (show RelV (V.int n) (Value.int n t) from ⟨t, rfl⟩) (vals_of_ints h)
theorem Vals.bls : ∀ {bs : List Bool} {us : List Value}, Vals (bs.map V.bl) us → us = bs.map Value.bool
  | [], us, h => by
    rw [List.map_nil] at h
    cases h
    rfl
  | b :: bs, us, h => by
    rw [List.map_cons] at h
    cases h with
    | cons r t =>
      cases r
      rw [Vals.bls t, List.map_cons]
theorem Vals.ref1 {a : Addr} {us : List Value} (r : Vals [V.ref a] us) : us = [Value.ref a] := by
  cases r with
  | cons r t =>
    cases t
    cases r
    rfl
section
variable {prog : Program} {w : World} {A : Around} {E : Value → Shared → Prop} {s : Shared} {l : Addr} {its : List Value} {ns : List Int} {Q : Value → Shared → Prop}
theorem max_raw (hh : A.handled = none) (hl : s.heap.IsList l its.toArray) (hi : IntsAre its ns) (hne : 0 < ns.length)
    (h : ∀ h' tk M t', (∀ b o, s.heap.get? b = some o → h'.get? b = some o) → M ∈ ns → (∀ a, a ∈ ns → a ≤ M) → Q (.int M t') { s with heap := h', toks := tk }) : wpAny (model prog w) A (call (.builtin "max") [.ref l]) Q E s := by
  obtain ⟨xs, e⟩ := hi.allInts.items
  have hn : numsOf (intItems xs).toList = ns := by rw [← e]; exact hi.numsOf
  rw [nums_intItems] at hn
  subst hn
  rw [e] at hl
  have hsz : 0 < xs.size := by simpa using hne
  refine PySem.max_intList hh hl hsz fun v h' tk hv hk => ?_
  obtain ⟨t, rfl⟩ := intItems_at hv
  obtain ⟨h1, h2⟩ := argBest_gt (numAt xs) (xs.size - 1)
  refine h h' tk _ t hk ?_ fun a ha => ?_
  · rw [numAt_eq]; exact PySem.getD_mem (by rw [List.length_map, Array.length_toList]; omega)
  · obtain ⟨j, hj, rfl⟩ := mem_getD ha
    rw [List.length_map, Array.length_toList] at hj
    rw [← numAt_eq]; exact h2 j (by omega)
end
section
variable {X : Cx}
def rMax (K : PySem.W.Frag) : List V → Hp → VK → Prop := fun vs H Q => ∃ (a : Addr) (ns : List Int), vs = [V.ref a] ∧ SqL K H a (ns.map V.int) ∧ 0 < ns.length ∧ ∀ m, m ∈ ns → (∀ y, y ∈ ns → y ≤ m) → Q (.int m) H
theorem cr_max (hc : X.calm = true) : CallR X (.builtin "max") (rMax X.K) := by
  intro pins s σ H vs us Q I r h
  obtain ⟨a, ns, rfl, hs, hne, q⟩ := h
  obtain ⟨its, rv, hl, _⟩ := I.list hs
  rw [Vals.ref1 r]
  exact max_raw (I.ok.hd hc) hl.isList rv.ints hne fun h' tk m t' hk h1 h2 => ⟨.int _, H, I.kept hk, ⟨_, rfl⟩, q m h1 h2⟩
theorem small64 {n : Nat} (h : n < 64) : n ≤ sizeLine := by rw [sizeLine_eq]; omega
end
section
variable {X : Cx}
def rIndex (K : PySem.W.Frag) : V → List V → Hp → VK → Prop := fun x xs H Q => ∃ (a : Addr) (ys : List V) (y : V) (j : Nat) (z : V), x = V.ref a ∧ xs = [y] ∧ SqL K H a ys ∧ flatV y = true ∧ ys.all flatV = true ∧ ys[j]? = some z ∧ eqV z y = true ∧
  (∀ (m : Nat) (z' : V), m < j → ys[m]? = some z' → eqV z' y = false) ∧ Q (.int (j : Nat)) H
theorem flat_at {ys : List V} (f : ys.all flatV = true) {j : Nat} {z : V} (h : ys[j]? = some z) : flatV z = true := List.all_eq_true.mp f z (List.mem_of_getElem? h)
theorem mt_index : MtR X "list.index" (rIndex X.K) := by
  intro pins s σ H x xs v us Q I rx rxs h
  obtain ⟨a, ys, y, j, z, rfl, rfl, hs, fy, fys, hz, hzj, hno, q⟩ := h
  cases rx
  cases rxs with
  | cons ry rt =>
    rename_i uy ut
    cases rt
    obtain ⟨its, rv, ⟨⟨cls, dd, data, sl⟩, n, ho, hc, hdn, hd⟩, hlen⟩ := I.list hs
    simp only at hc hd
    subst hc hd
    obtain ⟨u, hu, ru⟩ := rv.get hz
    obtain ⟨hjl, hje⟩ := List.getElem?_eq_some_iff.mp hu
    have hvl := rv.length
    have hj : j < its.toArray.size := by simpa using hjl
    have hsl := sizeLine_eq
    refine call_meets PySem.F.slot_list_index ⟨_, ho, rfl⟩ PySem.F.entry_list_index (PySem.F.args_list_index_2 _ _)
      (SeqAt.list_indexAt a its.toArray n dd sl uy (eqU y) j hj (by omega) ?_ ?_) ⟨ho, fun u' hu' => mem_eqAt ry fy rv fys u' (by simpa using hu'), ?_⟩
    · have e1 : its.toArray[j] = u := by simpa using hje
      rw [e1, eqU_of ru (flat_at fys hz)]
      exact hzj
    · intro m hm hmj
      have hml : m < its.length := by simpa using hm
      have hmy : m < ys.length := by omega
      have hy' : ys[m]? = some ys[m] := List.getElem?_eq_getElem hmy
      obtain ⟨u2, hu2, ru2⟩ := rv.get hy'
      obtain ⟨_, hme⟩ := List.getElem?_eq_some_iff.mp hu2
      have e1 : its.toArray[m] = u2 := by simpa using hme
      rw [e1, eqU_of ru2 (flat_at fys hy')]
      exact hno m _ hmj hy'
    · exact ⟨.int (j : Nat), H, I.tok _, ⟨_, rfl⟩, q⟩
end
section
variable {X : Cx}
end
theorem iter_any {prog : Program} {w : World} {A : Around} {E : Value → Shared → Prop} {s : Shared} {l : Addr} {items : Array Value} {Q : Value → Shared → Prop} (hl : s.heap.IsList l items)
    (h : ∀ s₂ : Shared, s₂ = { s with heap := s.heap.push { cls := .type "list_iterator", data := .fields #[.ref l, .int 0 0] } } →
      (s₂.heap.IsListIter s.heap.objs.size l 0 ∧ s₂.heap.IsList l items) → l ≠ s.heap.objs.size → Q (.ref s.heap.objs.size) s₂) : wpAny (model prog w) A (pyIter (.ref l)) Q E s := by
  have hlt : l < s.heap.objs.size := by obtain ⟨_, e, _⟩ := hl; exact Heap.lt_size e
  exact wpAny_pyIter_list hl (h _ rfl ⟨⟨_, Heap.get?_push_size _ rfl, rfl, rfl⟩, hl.push _⟩ (Nat.ne_of_lt hlt))
theorem truth_bools {prog : Program} {w : World} {A : Around} {bs : List Bool} {its : List Value} (e : its = bs.map Value.bool) :
    TruthOf prog w A (fun i v => its.toArray[i]? = some v) (fun i => bs.getD i false) := fun i v s Q E hv hq => by
  have hv' : its[i]? = some v := by simpa using hv
  rw [e, List.getElem?_map] at hv'
  obtain ⟨b, hb, rfl⟩ := Option.map_eq_some_iff.mp hv'
  have hg : bs.getD i false = b := by rw [List.getD_eq_getElem?_getD, hb] <;> rfl
  have hq' : Q (bs.getD i false) s := hq
  rw [hg] at hq'
  exact wpAny_truthy_bool hq'
theorem any_range : ∀ bs : List Bool, (List.range bs.length).any (fun i => bs.getD i false) = bs.any id
  | [] => rfl
  | b :: bs => by
    rw [List.length_cons, List.range_succ_eq_map, List.any_cons, List.any_map, List.any_cons, ← any_range bs]
    all_goals rfl
section
variable {X : Cx}
def rAny (K : PySem.W.Frag) : List V → Hp → VK → Prop := fun vs H Q => ∃ (a : Addr) (bs : List Bool), vs = [V.ref a] ∧ SqL K H a (bs.map V.bl) ∧ Q (.bl (bs.any id)) H
theorem cr_any (hc : X.calm = true) : CallR X (.builtin "any") (rAny X.K) := by
  intro pins s σ H vs us Q I r h
  obtain ⟨a, bs, rfl, hs, q⟩ := h
  obtain ⟨its, rv, hl, _⟩ := I.list hs
  rw [Vals.ref1 r]
  have hb := rv.bls
  refine call_any_walk (iter_any hl.isList fun s₂ e2 st hne => ?_)
  subst e2
  refine ⟨_, _, _, _, _, _, _, rfl, Walks.list (A := X.A.in1) (I.ok.hd hc) _ a hne its.toArray, st, truth_bools hb, fun h' tk hk => ?_⟩
  refine ⟨.bl _, H, I.kept fun b o eo => hk b o (fun hmem => ?_) (Heap.get?_push_of_some _ eo), ?_, q⟩
  · rcases List.mem_cons.mp hmem with e1 | hmem
    · exact absurd (e1 ▸ Heap.lt_size eo) (Nat.lt_irrefl _)
    · cases hmem
  · show Value.bool _ = Value.bool _
    rw [← any_range, hb, List.size_toArray, List.length_map]
end
section
variable {X : Cx} {pins : List (Addr × Obj)} {σ : St} {H : Hp} {s : Shared}
end
section
variable {X : Cx}
end
end L2
namespace L2
open PySem PySem.Spec PyProof.Rows
abbrev CellAt (h : Heap) (c : Addr) (v : Option Value) : Prop := h.IsCell c v
def relS (scope sc : Scope) : Scope :=
  { scope with names := scope.names.map fun (n, k) => if (k == .free && sc.kind == .function && sc.names.lookup n == some .cell) then (n, .cell) else (n, k) }
def cloFrom (cells : List (Str × Addr)) : List (Str × NameKind) → List (Str × Addr) → List (Str × Addr)
  | [], acc => acc
  | (n, k) :: r, acc => if k == .free then cloFrom cells r ((n, (cells.lookup n).getD 0) :: acc) else cloFrom cells r acc
theorem closure_loop (env : Env) (f : Str × NameKind → List (Str × Addr) → Sem (ForInStep (List (Str × Addr))))
    (hf : ∀ n k c, f (n, k) c = if k == .free then (do let a ← cellOf env n; pure (.yield ((n, a) :: c))) else pure (.yield c)) :
    ∀ (names : List (Str × NameKind)) (acc : List (Str × Addr)), (∀ y ∈ names, y.2 = .free → ∃ c, env.cells.lookup y.1 = some c) → forIn names acc f = pure (cloFrom env.cells names acc)
  | [], acc, _ => by rw [List.forIn_nil]; rfl
  | (n, k) :: r, acc, h => by
    rw [List.forIn_cons, hf]
    have ih := fun acc => closure_loop env f hf r acc fun y hy => h y (List.mem_cons_of_mem _ hy)
    unfold cloFrom
    by_cases hk : (k == NameKind.free) = true
    · rw [if_pos hk, if_pos hk]
      obtain ⟨c, hc⟩ := h (n, k) List.mem_cons_self (by simpa using hk)
      have e : cellOf env n = pure c := by unfold cellOf; rw [hc]
      rw [e]
      have e2 : (env.cells.lookup n).getD 0 = c := by rw [hc]; rfl
      rw [e2]
      exact ih _
    · rw [if_neg hk, if_neg hk]
      exact ih _
theorem closure_ok {scope : Scope} {env : Env} (h : ∀ y ∈ scope.names, y.2 = .free → ∃ c, env.cells.lookup y.1 = some c) : closureFor scope env = pure (cloFrom env.cells scope.names []) := by
  simp only [closureFor]
  rw [closure_loop env _ (fun n k c => rfl) scope.names [] h]
  rfl
theorem mem_lookup {α : Type} : ∀ {l : List (Str × α)} {n : Str} {c : α}, (n, c) ∈ l → ∃ c', l.lookup n = some c'
  | (k, v) :: r, n, c, h => by
    rw [List.lookup_cons]
    cases hb : n == k with
    | true => exact ⟨_, rfl⟩
    | false =>
      rcases List.mem_cons.mp h with e | h
      · cases e; simp at hb
      · exact mem_lookup h
theorem cloFrom_mem {cells : List (Str × Addr)} : ∀ {names : List (Str × NameKind)} {acc : List (Str × Addr)} {n : Str} {c : Addr}, (n, c) ∈ cloFrom cells names acc → (n, c) ∈ acc ∨ ((n, .free) ∈ names ∧ c = (cells.lookup n).getD 0)
  | [], _, _, _, h => .inl h
  | (m, k) :: r, acc, n, c, h => by
    unfold cloFrom at h
    split at h
    · rename_i hk
      have hk : k = .free := by simpa using hk
      rcases cloFrom_mem h with h | ⟨h1, h2⟩
      · rcases List.mem_cons.mp h with e | h
        · cases e; exact .inr ⟨hk ▸ List.mem_cons_self, rfl⟩
        · exact .inl h
      · exact .inr ⟨List.mem_cons_of_mem _ h1, h2⟩
    · rcases cloFrom_mem h with h | ⟨h1, h2⟩
      · exact .inl h
      · exact .inr ⟨List.mem_cons_of_mem _ h1, h2⟩
theorem cloFrom_acc {cells : List (Str × Addr)} : ∀ {names : List (Str × NameKind)} {acc : List (Str × Addr)} {p : Str × Addr}, p ∈ acc → p ∈ cloFrom cells names acc
  | [], _, _, h => h
  | (m, k) :: r, acc, p, h => by
    unfold cloFrom
    split
    · exact cloFrom_acc (List.mem_cons_of_mem _ h)
    · exact cloFrom_acc h
theorem cloFrom_has {cells : List (Str × Addr)} : ∀ {names : List (Str × NameKind)} {acc : List (Str × Addr)} {n : Str}, (n, .free) ∈ names → (n, (cells.lookup n).getD 0) ∈ cloFrom cells names acc
  | (m, k) :: r, acc, n, h => by
    unfold cloFrom
    rcases List.mem_cons.mp h with e | h
    · cases e
      exact cloFrom_acc List.mem_cons_self
    · split
      · exact cloFrom_has h
      · exact cloFrom_has h
theorem cells_mem : ∀ {names : List (Str × NameKind)} {h : Heap} {acc : List (Str × Addr)} {x : Str} {c : Addr}, (x, c) ∈ cellsFrom h.objs.size names acc →
    (x, c) ∈ acc ∨ ((x, .cell) ∈ names ∧ h.objs.size ≤ c ∧ CellAt (pushCells h names) c none)
  | [], _, _, _, _, h => .inl h
  | (n, k) :: r, h, acc, x, c, hm => by
    unfold cellsFrom at hm
    unfold pushCells
    split at hm
    · rename_i hk
      rw [if_pos hk]
      have hk : k = .cell := by simpa using hk
      rw [← Heap.size_push h { cls := .type "cell", data := .cell none }] at hm
      rcases cells_mem hm with hm | ⟨h1, h2, h3⟩
      · rcases List.mem_cons.mp hm with e | hm
        · cases e
          exact .inr ⟨hk ▸ List.mem_cons_self, Nat.le_refl _, _, pushCells_keeps r _ _ _ (Heap.get?_push_size _ rfl), rfl⟩
        · exact .inl hm
      · rw [Heap.size_push] at h2
        exact .inr ⟨List.mem_cons_of_mem _ h1, Nat.le_of_succ_le h2, h3⟩
    · rename_i hk
      rw [if_neg hk]
      rcases cells_mem hm with hm | ⟨h1, h2, h3⟩
      · exact .inl hm
      · exact .inr ⟨List.mem_cons_of_mem _ h1, h2, h3⟩
theorem cells_acc : ∀ {names : List (Str × NameKind)} {n : Nat} {acc : List (Str × Addr)} {p : Str × Addr}, p ∈ acc → p ∈ cellsFrom n names acc
  | [], _, _, _, h => h
  | (m, k) :: r, n, acc, p, h => by
    unfold cellsFrom
    split
    · exact cells_acc (List.mem_cons_of_mem _ h)
    · exact cells_acc h
theorem cells_has : ∀ {names : List (Str × NameKind)} {n : Nat} {acc : List (Str × Addr)} {x : Str}, (x, .cell) ∈ names → ∃ c, (x, c) ∈ cellsFrom n names acc
  | (m, k) :: r, n, acc, x, h => by
    unfold cellsFrom
    rcases List.mem_cons.mp h with e | h
    · cases e
      exact ⟨n, cells_acc List.mem_cons_self⟩
    · split
      · exact cells_has h
      · exact cells_has h
theorem cells_inj : ∀ {names : List (Str × NameKind)} {h : Heap} {acc : List (Str × Addr)} {x y : Str} {c : Addr}, (∀ p ∈ acc, p.2 < h.objs.size) → (∀ x y c, (x, c) ∈ acc → (y, c) ∈ acc → x = y) →
    (x, c) ∈ cellsFrom h.objs.size names acc → (y, c) ∈ cellsFrom h.objs.size names acc → x = y
  | [], _, _, _, _, _, _, hi, h1, h2 => hi _ _ _ h1 h2
  | (n, k) :: r, h, acc, x, y, c, hl, hi, h1, h2 => by
    unfold cellsFrom at h1 h2
    split at h1
    · rename_i hk
      rw [if_pos hk] at h2
      rw [← Heap.size_push h { cls := .type "cell", data := .cell none }] at h1 h2
      refine cells_inj (h := h.push _) (fun p hp => ?_) (fun x y c a b => ?_) h1 h2
      · rw [Heap.size_push]
        rcases List.mem_cons.mp hp with rfl | hp
        · exact Nat.lt_succ_self _
        · exact Nat.lt_succ_of_lt (hl p hp)
      · rcases List.mem_cons.mp a with e | a <;> rcases List.mem_cons.mp b with e' | b
        · cases e; cases e'; rfl
        · cases e; exact absurd (hl _ b) (Nat.lt_irrefl _)
        · cases e'; exact absurd (hl _ a) (Nat.lt_irrefl _)
        · exact hi _ _ _ a b
    · rename_i hk
      rw [if_neg hk] at h2
      exact cells_inj hl hi h1 h2
theorem newEnv_comp {M : Model} {A : Around} {E : Value → Shared → Prop} {s : Shared} {scope : Scope} {globals : Addr} {closure : List (Str × Addr)} {qual : Str} {func : Option Addr} {code : Value} {around : Env} {builtins : Addr} {Q : Env → Shared → Prop}
    (h : Q (newEnv scope s.heap.objs.size globals (cellsFrom (s.heap.objs.size + 1) scope.names closure) qual func code (some around) builtins)
      { s with heap := pushCells (s.heap.push { cls := .type "dict", data := .dict #[] }) scope.names }) :
    wpAny M A (newFunctionEnv scope globals closure [] qual func code (some around) builtins) Q E s := by
  simp only [newFunctionEnv, Option.isSome_some, if_true]
  refine wpAny_bind (wpAny_alloc ?_)
  refine wpAny_bind (wpAny_layCells _ (fun n k c => rfl) scope.names closure _ _ ?_)
  rw [show ({ s with heap := s.heap.push { cls := .type "dict", data := .dict #[] } } : Shared).heap.objs.size = s.heap.objs.size + 1 from Heap.size_push ..]
  rw [List.forIn_nil]
  exact wpAny_bind (wpAny_pure (wpAny_pure h))
theorem lookup_relS {sc : Scope} : ∀ {names : List (Str × NameKind)} {x : Str} {k : NameKind},
    (names.map fun (n, k) => if (k == NameKind.free && sc.kind == .function && sc.names.lookup n == some .cell) then (n, NameKind.cell) else (n, k)).lookup x = some k →
    ∃ k', names.lookup x = some k' ∧ (k = k' ∨ (k' = .free ∧ k = .cell))
  | [], _, _, h => by simp at h
  | (n, k₀) :: r, x, k, h => by
    have ih := @lookup_relS sc r x k
    have h' : List.lookup x ((if (k₀ == NameKind.free && sc.kind == .function && sc.names.lookup n == some .cell) = true then (n, NameKind.cell) else (n, k₀)) :: (r.map _)) = some k := h
    cases hx : x == n with
    | true =>
      simp only [List.lookup_cons, hx]
      by_cases hc : (k₀ == NameKind.free && sc.kind == .function && sc.names.lookup n == some .cell) = true
      · rw [if_pos hc] at h'
        simp only [List.lookup_cons, hx] at h'
        cases h'
        simp only [Bool.and_eq_true, beq_iff_eq] at hc
        exact ⟨k₀, rfl, .inr ⟨hc.1.1, rfl⟩⟩
      · rw [if_neg hc] at h'
        simp only [List.lookup_cons, hx] at h'
        cases h'
        exact ⟨_, rfl, .inl rfl⟩
    | false =>
      simp only [List.lookup_cons, hx]
      by_cases hc : (k₀ == NameKind.free && sc.kind == .function && sc.names.lookup n == some .cell) = true
      · rw [if_pos hc] at h'
        simp only [List.lookup_cons, hx] at h'
        exact ih h'
      · rw [if_neg hc] at h'
        simp only [List.lookup_cons, hx] at h'
        exact ih h'
structure BlkOk (N : List Str) (sc scope : Scope) (own : List (Str × Nat)) : Prop where
  kind : scope.kind = .function
  uniq : ∀ y ∈ scope.names, scope.names.lookup y.1 = some y.2
  ix : ∀ p ∈ own, N[p.2]? = some p.1
  free : ∀ y ∈ scope.names, y.2 = .free → sc.names.lookup y.1 = some .cell ∨ sc.names.lookup y.1 = some .free
  own : ∀ y ∈ scope.names, y.2 = .local ∨ y.2 = .cell → y.1 ∈ own.map (·.1) ∨ y.1 ∉ N
def wipe (σ : St) : List Nat → St
  | [] => σ
  | v :: vs => (wipe σ vs).set v none
theorem wipe_length (σ : St) : ∀ vs : List Nat, (wipe σ vs).length = σ.length
  | [] => rfl
  | v :: vs => by unfold wipe; rw [List.length_set, wipe_length σ vs]
theorem wipe_some {σ : St} {i : Nat} {x : V} : ∀ {vs : List Nat}, (wipe σ vs)[i]? = some (some x) → σ[i]? = some (some x) ∧ i ∉ vs
  | [], h => ⟨h, by simp⟩
  | v :: vs, h => by
    unfold wipe at h
    by_cases hi : v = i
    · subst hi
      by_cases hv : v < (wipe σ vs).length
      · rw [List.getElem?_set_self hv] at h; cases h
      · rw [List.getElem?_eq_none (by simpa using hv)] at h; cases h
    · rw [List.getElem?_set_ne hi] at h
      obtain ⟨h1, h2⟩ := wipe_some h
      exact ⟨h1, by simp only [List.mem_cons, not_or]; exact ⟨fun e => hi e.symm, h2⟩⟩
abbrev Cx.blk (X : Cx) (s : Shared) (H : Hp) (scope : Scope) (cenv : Env) (fp : List Addr) : Cx := { X with s_0 := s, H_0 := H, env := cenv, outer := X.stack, ex := fp, fn := fun x => scope.names.lookup x == some .cell, pn := [], xe := fun _ _ => False }
section
variable {X : Cx} {pins : List (Addr × Obj)} {σ : St} {H : Hp} {s : Shared}
theorem block_start {scope : Scope} {own : List (Str × Nat)} {fp : List Addr} (I : Inv X pins σ H s) (ok : BlkOk X.N X.env.scope scope own) (hN : X.N.Nodup) (hfp : ∀ b ∈ fp, FpOk X pins H b ∧ b < s.heap.objs.size) :
    Inv (X.blk s H scope (compEnvC scope (cellsFrom (s.heap.objs.size + 1) scope.names (cloFrom X.env.cells scope.names [])) s.heap.objs.size X.env) fp) [] (wipe σ (own.map (·.2))) H { s with heap := pushCells (s.heap.push { cls := .type "dict", data := .dict #[] }) scope.names } := by
  have hfree : ∀ y ∈ scope.names, y.2 = .free → ∃ c, X.env.cells.lookup y.1 = some c := fun y hy e => by
    rcases ok.free y hy e with k | k
    · exact I.ok.has _ (.inl k)
    · exact I.ok.has _ (.inr k)
  generalize hcenv : compEnvC scope (cellsFrom (s.heap.objs.size + 1) scope.names (cloFrom X.env.cells scope.names [])) s.heap.objs.size X.env = cenv
  have kp : ∀ b o, s.heap.get? b = some o → (pushCells (s.heap.push { cls := .type "dict", data := .dict #[] }) scope.names).get? b = some o := fun b o e => pushCells_keeps _ _ _ _ (Heap.get?_push_of_some _ e)
  have hL : cenv.locals = s.heap.objs.size := by rw [← hcenv]; rfl
  have hcl : cenv.cells = cellsFrom (s.heap.objs.size + 1) scope.names (cloFrom X.env.cells scope.names []) := by rw [← hcenv]; rfl
  have hsc : cenv.scope = relS scope X.env.scope := by rw [← hcenv]; rfl
  rw [← Heap.size_push s.heap { cls := .type "dict", data := .dict #[] }] at hcl
  have cm : ∀ {y c}, (y, c) ∈ cloFrom X.env.cells scope.names [] → X.env.cells.lookup y = some c ∧ c < s.heap.objs.size := fun {y c} hm => by
    rcases cloFrom_mem hm with hm | ⟨h1, rfl⟩
    · cases hm
    · obtain ⟨c, hc⟩ := hfree _ h1 rfl
      rw [hc]
      obtain ⟨w, z⟩ := I.cell _ _ hc
      exact ⟨rfl, z.lt⟩
  have mem : ∀ {y c}, cenv.cells.lookup y = some c → (X.env.cells.lookup y = some c ∧ c < s.heap.objs.size) ∨ (s.heap.objs.size + 1 ≤ c ∧ CellAt (pushCells (s.heap.push { cls := .type "dict", data := .dict #[] }) scope.names) c none) := fun {y c} e => by
    rw [hcl] at e
    rcases cells_mem (PySem.mem_of_lookup e) with hm | ⟨_, h2, h3⟩
    · exact .inl (cm hm)
    · rw [Heap.size_push] at h2; exact .inr ⟨h2, h3⟩
  have look : ∀ {y}, scope.names.lookup y = some .free → ∃ c, cenv.cells.lookup y = some c ∧ X.env.cells.lookup y = some c := fun {y} hl => by
    have hy : (y, NameKind.free) ∈ scope.names := PySem.mem_of_lookup hl
    obtain ⟨c', e'⟩ := mem_lookup (cells_acc (names := scope.names) (n := (s.heap.push { cls := .type "dict", data := .dict #[] }).objs.size) (cloFrom_has (cells := X.env.cells) (acc := []) hy))
    rw [← hcl] at e'
    refine ⟨c', e', ?_⟩
    rw [hcl] at e'
    rcases cells_mem (PySem.mem_of_lookup e') with hm | ⟨h1, _, _⟩
    · exact (cm hm).1
    · have := ok.uniq _ h1
      rw [hl] at this; cases this
  have okB : (X.blk s H scope cenv fp).Ok := by
    refine ⟨I.ok.mod, by show cenv.scope.kind = _; rw [hsc]; exact ok.kind, by show cenv.globals = _; rw [← hcenv]; exact I.ok.glob, by show cenv.builtins = _; rw [← hcenv]; exact I.ok.blt, by show s.heap.objs.size ≤ cenv.locals; rw [hL]; exact Nat.le_refl _,
      fun y z c e1 e2 => ?_, fun y hy => ?_, fun y c z e => ?_, I.ok.hd, I.ok.frames, .inl rfl, fun b hb => ⟨?_, fun y c e z => ?_⟩, I.bs, Nat.le_trans I.ok.bsz I.sz, fun b o e hb => ?_, fun b hb z => ?_, I.stack, I.stkFree⟩
    · have e1 : cenv.cells.lookup y = some c := e1
      have e2 : cenv.cells.lookup z = some c := e2
      rw [hcl] at e1 e2
      refine cells_inj (fun p hp => ?_) (fun y z c a b => I.ok.inj y z c (cm a).1 (cm b).1) (PySem.mem_of_lookup e1) (PySem.mem_of_lookup e2)
      rw [Heap.size_push]
      exact Nat.lt_succ_of_lt (cm (y := p.1) (c := p.2) hp).2
    · show ∃ c, cenv.cells.lookup y = some c
      have key : ∀ k, cenv.kindOf y = some k → (k = .cell ∨ k = .free) → ∃ c, cenv.cells.lookup y = some c := fun k hk hk' => by
        unfold Env.kindOf at hk
        rw [hsc] at hk
        obtain ⟨k', e, r⟩ := lookup_relS hk
        have : k' = .cell ∨ k' = .free := by
          rcases r with rfl | ⟨rfl, _⟩
          · exact hk'
          · exact .inr rfl
        rcases this with rfl | rfl
        · obtain ⟨c, hm⟩ := cells_has (n := (s.heap.push { cls := .type "dict", data := .dict #[] }).objs.size) (acc := cloFrom X.env.cells scope.names []) (PySem.mem_of_lookup e)
          obtain ⟨c', e'⟩ := mem_lookup hm
          exact ⟨c', by rw [hcl]; exact e'⟩
        · obtain ⟨c, h1, _⟩ := look e
          exact ⟨c, h1⟩
      rcases hy with hy | hy
      · exact key _ hy (.inl rfl)
      · exact key _ hy (.inr rfl)
    · have z : (scope.names.lookup y == some NameKind.cell) = true := z
      have z : scope.names.lookup y = some .cell := by simpa using z
      have e : cenv.cells.lookup y = some c := e
      rw [hcl] at e
      rcases cells_mem (PySem.mem_of_lookup e) with hm | ⟨_, h2, _⟩
      · rcases cloFrom_mem hm with hm | ⟨h1, _⟩
        · cases hm
        · have q := ok.uniq _ h1
          rw [z] at q; cases q
      · rw [Heap.size_push] at h2
        exact Nat.le_of_succ_le h2
    · show b ≠ cenv.locals
      rw [hL]; exact Nat.ne_of_lt (hfp b hb).2
    · have e : cenv.cells.lookup y = some c := e
      rcases mem e with ⟨h1, _⟩ | ⟨h1, _⟩
      · exact (hfp b hb).1.2.2.2.2.1 y c h1 z
      · have h2 : s.heap.objs.size + 1 ≤ b := by rw [← z]; exact h1
        exact absurd (Nat.lt_of_lt_of_le (hfp b hb).2 (Nat.le_of_succ_le h2)) (Nat.lt_irrefl _)
    · rcases (hfp b hb).1.2.2.2.1 with z | z
      · exact I.ok.noex b o e z
      · exact absurd (Nat.lt_of_lt_of_le (Heap.lt_size e) (Nat.le_trans I.ok.bsz z)) (Nat.lt_irrefl _)
    · rcases List.mem_cons.mp (I.stkSub b z) with z | z
      · exact (hfp b hb).1.2.1 z
      · exact (hfp b hb).1.2.2.1 z
  refine ⟨okB, rfl, I.bare, Un.kept kp, ⟨fun _ => none, ?_, fun i y av e1 e2 e3 => ?_⟩, fun y c e => ?_, ?_, fun y c e => ?_, fun p hp => ?_, I.hok.kept kp, by rw [wipe_length]; exact I.len⟩
  · show Heap.Ns _ cenv.locals _
    rw [hL]
    exact Heap.Ns.keeps (Heap.Ns.new ..) fun b o e => pushCells_keeps _ _ _ _ e
  · obtain ⟨e2, hne⟩ := wipe_some e2
    have hfr : scope.names.lookup y = some .free ∧ (cenv.kindOf y = some .cell ∨ cenv.kindOf y = some .free) := by
      have key : ∀ k, cenv.scope.names.lookup y = some k → k = .local ∨ k = .cell ∨ k = .free → scope.names.lookup y = some .free ∧ (cenv.kindOf y = some .cell ∨ cenv.kindOf y = some .free) := fun k hk hk' => by
        have hk0 := hk
        rw [hsc] at hk
        obtain ⟨k', e, r⟩ := lookup_relS hk
        have no : ¬ (k' = .local ∨ k' = .cell) := fun hh => by
          rcases ok.own _ (PySem.mem_of_lookup e) hh with e' | e'
          · obtain ⟨p, hp, hpy⟩ := List.mem_map.mp e'
            have e3 := ok.ix p hp
            have : p.1 = y := hpy
            rw [this] at e3
            exact hne (List.mem_map.mpr ⟨p, hp, nodup_ix hN e3 e1⟩)
          · exact e' (List.mem_of_getElem? e1)
        rcases r with rfl | ⟨rfl, rfl⟩
        · rcases hk' with rfl | rfl | rfl
          · exact absurd (.inl rfl) no
          · exact absurd (.inr rfl) no
          · exact ⟨e, .inr hk0⟩
        · exact ⟨e, .inl hk0⟩
      have e3 : Vis cenv.scope y := e3
      rcases e3 with e3 | e3 | e3
      · exact key _ e3 (.inl rfl)
      · exact key _ e3 (.inr (.inl rfl))
      · exact key _ e3 (.inr (.inr rfl))
    obtain ⟨m, hn, hl⟩ := I.loc
    have hvis : Vis X.env.scope y := (ok.free _ (PySem.mem_of_lookup hfr.1) rfl).elim (fun k => .inr (.inl k)) (fun k => .inr (.inr k))
    obtain ⟨w, r, q⟩ := hl i y av e1 e2 hvis
    refine ⟨w, r, .inr ⟨hfr.2, ?_⟩⟩
    obtain ⟨c, h1, h2⟩ := look hfr.1
    rcases q with ⟨k, _⟩ | ⟨_, c', e', z⟩
    · have k : X.env.scope.names.lookup y = some .local := k
      rcases ok.free _ (PySem.mem_of_lookup hfr.1) rfl with k' | k' <;> rw [show X.env.scope.names.lookup y = _ from k'] at k <;> cases k
    · rw [h2] at e'; cases e'
      exact ⟨c, h1, z.keeps kp⟩
  · have e : cenv.cells.lookup y = some c := e
    rcases mem e with ⟨h1, _⟩ | ⟨_, z⟩
    · obtain ⟨w, z⟩ := I.cell y c h1
      exact ⟨w, z.keeps kp⟩
    · exact ⟨_, z⟩
  · show H cenv.locals = none
    rw [hL]; exact I.hok.fresh (Nat.le_refl _)
  · have e : cenv.cells.lookup y = some c := e
    rcases mem e with ⟨h1, _⟩ | ⟨h1, _⟩
    · exact I.freeC y c h1
    · exact I.hok.fresh (Nat.le_of_succ_le h1)
  · exact absurd (show p ∈ ([] : List (Addr × Obj)) ++ [] from hp) (by simp)
theorem app_ok {E : Value → Shared → Prop} {D : Addr} {xs : List V} {y : V} {v : Value} {Q : Value → Shared → Prop} (I : Inv X pins σ H s) (hD : H D = some (.lst xs)) (hz : xs.length < sizeLine) (r : RelV y v)
    (h : ∀ s', Inv X pins σ (upd H D (.lst (xs ++ [y]))) s' → Q .none s') : wpAny (model X.prog X.w) X.A (call (.builtin "list.append") [.ref D, v]) Q E s := by
  obtain ⟨hz', its, n, ri, e⟩ := I.hok D _ hD
  have hl := ri.length
  refine append_at (hsz := by rw [List.size_toArray]; omega) e fun h' sb ho' => ?_
  refine h { s with heap := h' } (I.write (t' := s.toks) (by rw [hD]; trivial) (.inl rfl) (fun b u hb q => (sb.2 b hb).trans q) ⟨_, ho'⟩ ⟨by rw [List.length_append]; exact hz, its ++ [v], n + 1, ri.append (.cons r .nil), ?_⟩)
  rw [ho']
  simp
def PTs (X : Cx) (ifs : List Expr) (t : TT) : Prop :=
  ∀ (pins : List (Addr × Obj)) (s : Shared) (σ : St) (H : Hp) (Q : Bool → Hp → Prop), Inv X pins σ H s → t σ H Q →
    wpAny (model X.prog X.w) X.A (forIn ifs true fun c r => if r = true then do let ok ← isTrue c X.env (eval c X.env); pure (ForInStep.yield ok) else pure (ForInStep.yield r)) (TP X pins σ Q) X.xe s
def tYes : TT := fun _ H Q => Q true H
theorem pts_nil : PTs X [] tYes := fun _ _ _ H _ I h => wpAny_tests_nil ⟨H, I, h⟩
theorem pts_one {c : Expr} {t : TT} (h : PT X c t) : PTs X [c] t := fun pins s σ H Q I hw => wpAny_tests_one (h pins s σ H Q I hw)
end
theorem thnF {α : Type} {t : Sem α} {Q Q' : α → Shared → Prop} {M : Model} {A : Around} {E : Value → Shared → Prop} {s : Shared} (h : wpAny M A t Q (fun _ _ => False) s) (hQ : ∀ a s, Q a s → Q' a s) : wpAny M A t Q' E s := wpAny_mono h hQ fun _ _ z => False.elim z
theorem compLoop_any {prog : Program} {w : World} {A : Around} {R : Result → Shared → Prop} {s : Shared} {elt target iter : Expr} {ifs : List Expr} {scope : Scope} {pos : Pos} {it acc : Value} {env : Env} (I : Nat → Shared → Prop)
    (turn : ∀ n s, I n s → wpAny (model prog w) A (pyNext it) (fun r s₁ => match r with
      | none => R (.ok .next) s₁
      | some v => wpAny (model prog w) A (letOwnedTupleGo target it v) (fun _ s₁' => wpAny (model prog w) A (assign target env v) (fun _ s₂ =>
          wpAny (model prog w) A (forIn ifs true fun c r => if r = true then do let ok ← isTrue c env (eval c env); pure (ForInStep.yield ok) else pure (ForInStep.yield r)) (fun ok s₃ =>
            if ok = true then wpAny (model prog w) A (eval elt env) (fun x s₄ =>
              wpAny (model prog w) A (call (.builtin "list.append") [acc, x]) (fun _ s₅ => ∃ m, m < n ∧ I m s₅) (notedBy (model prog w) A env fun e s' => R (.error e) s') s₄) (notedBy (model prog w) A env fun e s' => R (.error e) s') s₃
            else ∃ m, m < n ∧ I m s₃) (notedBy (model prog w) A env fun e s' => R (.error e) s') s₂) (notedBy (model prog w) A env fun e s' => R (.error e) s') s₁') (notedBy (model prog w) A env fun e s' => R (.error e) s') s₁) (notedBy (model prog w) A env fun e s' => R (.error e) s') s)
    (n : Nat) (h : I n s) :
    codeAny (model prog w) A (.compLoop (.ListComp elt [⟨target, iter, ifs, 0⟩] scope pos) 0 it acc env) R s := by
  refine codeAny_loop rfl I (fun n s hI => ?_) n h
  show wpAny _ A ((compTurn (.ListComp elt [⟨target, iter, ifs, 0⟩] scope pos) 0 it acc env).onRaise (fun x => do noteFrame x env; theTreesLotGoes x)) _ _ s
  refine wpAny_noted ?_
  rw [compTurn_list]
  refine wpAny_bind (wpAny_standAt (wpAny_bind (wpAny_mono (turn n s hI) (fun r s₁ h₁ => ?_) fun _ _ h' => h')))
  cases r with
  | none => exact wpAny_pure h₁
  | some v =>
    refine wpAny_bind (wpAny_mono h₁ (fun _ s₁' h₁' => ?_) fun _ _ h' => h')
    refine wpAny_bind (wpAny_mono h₁' (fun _ s₂ h₂ => wpAny_bind (wpAny_mono h₂ (fun ok s₃ h₃ => ?_) fun _ _ h' => h')) fun _ _ h' => h')
    cases ok with
    | false => exact wpAny_pure ⟨rfl, h₃⟩
    | true =>
      exact wpAny_bind (wpAny_bind (wpAny_mono h₃ (fun x s₄ h₄ => wpAny_bind (wpAny_mono h₄ (fun _ s₅ h₅ => wpAny_pure (wpAny_pure ⟨rfl, h₅⟩)) fun _ _ h' => h')) fun _ _ h' => h'))
section
variable {X : Cx}
def tLc (wi : TI) (g : TG) (tt : TT) (te : TE) (vs : List Nat) : TE := fun σ H Q => wi σ H fun J H1 => ∀ D, H1 D = none → ∃ W : Nat → Nat → Hp → Prop, (∃ m, W 0 m (upd H1 D (.lst []))) ∧ ∀ i m H, W i m H →
  (J.stop i H ∧ Q (.ref D) H) ∨ (J.go i H ∧ ∃ Nx : Hp → Prop, (∀ H', Nx H' → ∃ m', m' < m ∧ W (i + 1) m' H') ∧ ∀ x H', J.yld i H x H' → g x (wipe σ vs) H' fun σ2 H2 => wipe σ2 vs = wipe σ vs ∧ tt σ2 H2 fun b H3 =>
    if b = true then te σ2 H3 fun y H4 => ∃ acc, H4 D = some (.lst acc) ∧ acc.length < sizeLine ∧ Nx (upd H4 D (.lst (acc ++ [y]))) else Nx H3)
theorem lc_core {pins : List (Addr × Obj)} {s : Shared} {σ : St} {H : Hp} {Q : VK} {elt tg iter : Expr} {ifs : List Expr} {scope : Scope} {own : List (Str × Nat)} {pos pos' : Pos} {wi : TI} {g : TG} {tt : TT} {te : TE} {use : Option (Value → Sem Unit)} {Qf : Value → Shared → Prop}
    (hc : X.calm = true) (hN : X.N.Nodup) (I : Inv X pins σ H s) (hi : PI X tg iter wi) (ok : BlkOk X.N X.env.scope scope own)
    (hg : ∀ (s : Shared) (H : Hp) (C : Addr) (cl : List (Str × Addr)) (fp : List Addr), PG (X.blk s H scope (compEnvC scope cl C X.env) fp) tg g) (ht : ∀ (s : Shared) (H : Hp) (C : Addr) (cl : List (Str × Addr)) (fp : List Addr), PTs (X.blk s H scope (compEnvC scope cl C X.env) fp) ifs tt)
    (he : ∀ (s : Shared) (H : Hp) (C : Addr) (cl : List (Str × Addr)) (fp : List Addr), PE (X.blk s H scope (compEnvC scope cl C X.env) fp) elt te) (hs : ∀ x, foldedSetIterable iter X.env x = pure x)
    (h : tLc wi g tt te (own.map (·.2)) σ H Q)
    (hRR : ∀ D C s' m H', Inv X pins σ H' s' → Q (.ref D) H' → s'.heap.Ns C m → FpOk X pins H' C → compPost (model X.prog X.w) X.A X.xe use Qf (.ref D) C (.ok .next) s') :
    wpAny (model X.prog X.w) X.A (comprehension (.ListComp elt [⟨tg, iter, ifs, 0⟩] scope pos) scope X.env pos' (newList []) false (eval iter X.env) use) Qf X.xe s := by
  have hfree : ∀ y ∈ scope.names, y.2 = .free → ∃ c, X.env.cells.lookup y.1 = some c := fun y hy e => by
    rcases ok.free y hy e with k | k
    · exact I.ok.has _ (.inl k)
    · exact I.ok.has _ (.inr k)
  refine wpAny_comprehension_free (use := use) rfl hs (closure_ok hfree) ok.kind (fun y hy e => by rw [ok.uniq y hy, e])
    (thn (hi pins s σ H _ I h) fun xv s1 hx => thn hx fun itv s2 h2 => ?_)
  obtain ⟨it, fp, tn, J, H2, e, I2, T, st2, f2, q⟩ := h2
  subst e
  refine wpAny_newObj_type (newEnv_comp ?_) (by show 0 ≤ sizeLine; decide)
  generalize hD : s2.heap.objs.size = D
  have hDn : H2 D = none := I2.hok.fresh (Nat.le_of_eq hD)
  obtain ⟨W, ⟨m0, w0⟩, turn⟩ := q D hDn
  -- the new list
  generalize hs3 : ({ s2 with heap := s2.heap.push { cls := .type "list", data := .seq ([] : List Value).toArray } } : Shared) = s3
  have I3 : Inv X pins σ (upd H2 D (.lst [])) s3 := by
    rw [← hs3]
    refine I2.laid (t' := s2.toks) (fun b o e => Heap.get?_push_of_some _ e) (Nat.le_of_eq hD) ⟨Nat.zero_le _, [], 0, .nil, ?_⟩
    rw [← hD]
    exact Heap.get?_push_size _ rfl
  have h3 : s3.heap = s2.heap.push { cls := .type "list", data := .seq ([] : List Value).toArray } := by rw [← hs3]
  have sz : ∀ b ∈ fp, b < s2.heap.objs.size := fun b hb => by
    obtain ⟨o, e, _⟩ := T.obj _ _ st2 b hb
    exact Heap.lt_size e
  have f3 : ∀ b ∈ fp, FpOk X pins (upd H2 D (.lst [])) b ∧ b < s3.heap.objs.size := fun b hb => by
    have hlt := sz b hb
    refine ⟨⟨?_, (f2 b hb).2⟩, by rw [h3, Heap.size_push]; exact Nat.lt_succ_of_lt hlt⟩
    rw [upd_ne (by rw [← hD]; exact Nat.ne_of_lt hlt)]
    exact (f2 b hb).1
  have st3 : tn 0 s3.heap := T.keep _ _ _ st2 fun b _ o e => by rw [h3]; exact Heap.get?_push_of_some _ e
  have I4 := block_start I3 ok hN f3
  have pg := hg s3 (upd H2 D (.lst [])) s3.heap.objs.size (cellsFrom (s3.heap.objs.size + 1) scope.names (cloFrom X.env.cells scope.names [])) fp
  have pt := ht s3 (upd H2 D (.lst [])) s3.heap.objs.size (cellsFrom (s3.heap.objs.size + 1) scope.names (cloFrom X.env.cells scope.names [])) fp
  have pe := he s3 (upd H2 D (.lst [])) s3.heap.objs.size (cellsFrom (s3.heap.objs.size + 1) scope.names (cloFrom X.env.cells scope.names [])) fp
  show codeAny _ _ (.compStart (.ListComp elt [⟨tg, iter, ifs, 0⟩] scope pos) 0 (.ref it) (.ref D) (compEnvC scope (cellsFrom (s3.heap.objs.size + 1) scope.names (cloFrom X.env.cells scope.names [])) s3.heap.objs.size X.env)) (compPost (model X.prog X.w) X.A X.xe use Qf (.ref D) s3.heap.objs.size) { s3 with heap := pushCells (s3.heap.push { cls := .type "dict", data := .dict #[] }) scope.names }
  have nfp : ∀ b ∈ fp, (upd H2 D (.lst [])) b = none := fun b hb => (f3 b hb).1.1
  generalize hce : compEnvC scope (cellsFrom (s3.heap.objs.size + 1) scope.names (cloFrom X.env.cells scope.names [])) s3.heap.objs.size X.env = ce at I4 pg pt pe ⊢
  have cL : ce.locals = s3.heap.objs.size := by subst hce; rfl
  generalize hH3 : upd H2 D (.lst []) = H3 at I3 I4 pg pt pe w0 nfp f3
  generalize hs4 : ({ s3 with heap := pushCells (s3.heap.push { cls := .type "dict", data := .dict #[] }) scope.names } : Shared) = s4 at I4 ⊢
  have st4 : tn 0 s4.heap := T.keep _ _ _ st3 fun b _ o e => by rw [← hs4]; exact pushCells_keeps _ _ _ _ (Heap.get?_push_of_some _ e)
  have stat : ∀ {σ' : St} {H' : Hp} {s' : Shared}, Inv (X.blk s3 H3 scope ce fp) [] σ' H' s' → (∀ b ∈ fp, H' b = none) → ∀ b ∈ fp, FpOk (X.blk s3 H3 scope ce fp) [] H' b := fun {σ' H' s'} I' hn b hb =>
    ⟨hn b hb, (I'.ok.exf b hb).1, I'.ok.exfs b hb, .inl hb, fun x c e => (I'.ok.exf b hb).2 x c e, fun p hp => absurd (show p ∈ ([] : List (Addr × Obj)) ++ [] from hp) (by simp)⟩
  have loop : codeAny (model X.prog X.w) X.A (.compLoop (.ListComp elt [⟨tg, iter, ifs, 0⟩] scope pos) 0 (.ref it) (.ref D) ce) (compPost (model X.prog X.w) X.A X.xe use Qf (.ref D) s3.heap.objs.size) s4 := by
    refine compLoop_any (fun n s' => ∃ i H', Inv (X.blk s3 H3 scope ce fp) [] (wipe σ (own.map (·.2))) H' s' ∧ tn i s'.heap ∧ (∀ b ∈ fp, H' b = none) ∧ W i n H') ?_ m0 ⟨0, H3, I4, st4, nfp, w0⟩
    rintro n s5 ⟨i, H5, I5, st5, n5, w5⟩
    rcases turn i n H5 w5 with ⟨stop, qq⟩ | ⟨go, Nx, hNx, step⟩
    · have td := T.done (X.blk s3 H3 scope ce fp) rfl rfl rfl hc i [] s5 _ H5 (fun _ _ => False) I5 (stat I5 n5) st5 stop
      refine thnF td fun r s6 ⟨hr, I6⟩ => ?_
      subst hr
      -- back in the def's context
      have I7 : Inv X pins σ H5 s6 := I3.call' (ch := fp) I6.os I6.base I6.hok I6.bare fun b hb => ⟨(f3 b hb).1.2.2.2.1, (f3 b hb).1.2.1, (f3 b hb).1.2.2.2.2.1, (f3 b hb).1.2.2.2.2.2⟩
      have nC : H5 s3.heap.objs.size = none := by
        have z : H5 ce.locals = none := I6.free
        rw [cL] at z
        exact z
      obtain ⟨m, hn, _⟩ := I6.loc
      have hn : s6.heap.Ns ce.locals m := hn
      rw [cL] at hn
      exact hRR D s3.heap.objs.size s6 m H5 I7 qq hn (I3.fpOk (Nat.le_refl _) nC)
    · have ti := T.item (X.blk s3 H3 scope ce fp) rfl rfl rfl hc i [] s5 _ H5 (fun _ _ => False) I5 (stat I5 n5) st5 go
      refine thnF ti fun r s6 ⟨u, hr, h6⟩ => ?_
      subst hr
      refine thnF h6 fun _ s7 ⟨x, H7, I7, r7, y7, st7, n7⟩ => ?_
      have I7' := I7.pinned (stat I7 n7) (T.obj _ _ st7)
      refine thnF (pg _ s7 _ H7 x u _ I7' r7 (step x H7 y7)) fun _ s8 ⟨σ8, H8, I8, hw8, q8⟩ => ?_
      refine thnF (pt _ s8 σ8 H8 _ I8 q8) fun b s9 ⟨H9, I9, q9⟩ => ?_
      -- the turn's end
      have fin : ∀ {s' : Shared} {H' : Hp}, Inv (X.blk s3 H3 scope ce fp) ([] ++ pinsAt fp s7.heap) σ8 H' s' → Nx H' → ∃ m, m < n ∧ ∃ i H', Inv (X.blk s3 H3 scope ce fp) [] (wipe σ (own.map (·.2))) H' s' ∧ tn i s'.heap ∧ (∀ b ∈ fp, H' b = none) ∧ W i m H' := fun {s' H'} I' nx => by
        obtain ⟨m', hm, w'⟩ := hNx H' nx
        have pin' : ∀ b ∈ fp, ∀ o, s7.heap.get? b = some o → s'.heap.get? b = some o ∧ H' b = none := fun b hb o e =>
          let z := I'.pin (b, o) (List.mem_append_right _ (List.mem_append_right _ (mem_pinsAt hb e)))
          ⟨z.1, z.2.1⟩
        have hl : (wipe σ (own.map (·.2))).length = σ8.length := by rw [← hw8, wipe_length]
        refine ⟨m', hm, i + 1, H', (I'.unpinned (pins := [])).weak hl (fun j v e => ?_), T.keep _ _ _ st7 fun b hb o e => (pin' b hb o e).1, fun b hb => ?_, w'⟩
        · rw [← hw8] at e
          exact (wipe_some e).1
        · obtain ⟨o, e, _⟩ := T.obj _ _ st7 b hb
          exact (pin' b hb o e).2
      cases b with
      | false =>
        simp only [Bool.false_eq_true, if_false] at q9 ⊢
        exact fin I9 q9
      | true =>
        simp only [if_true] at q9 ⊢
        refine thnF (pe _ s9 σ8 H9 _ I9 q9) fun z s10 ⟨yv, H10, I10, r10, acc, hD10, hz10, nx⟩ => ?_
        exact app_ok (X := X.blk s3 H3 scope ce fp) I10 hD10 hz10 r10 fun s11 I11 => fin I11 nx
  exact codeAny_compStart_list loop (T.self X.A 0 _ _ _ st4 loop)
theorem pe_lc {elt tg iter : Expr} {ifs : List Expr} {scope : Scope} {own : List (Str × Nat)} {pos : Pos} {wi : TI} {g : TG} {tt : TT} {te : TE} (hc : X.calm = true) (hN : X.N.Nodup) (hi : PI X tg iter wi) (ok : BlkOk X.N X.env.scope scope own)
    (hg : ∀ (s : Shared) (H : Hp) (C : Addr) (cl : List (Str × Addr)) (fp : List Addr), PG (X.blk s H scope (compEnvC scope cl C X.env) fp) tg g) (ht : ∀ (s : Shared) (H : Hp) (C : Addr) (cl : List (Str × Addr)) (fp : List Addr), PTs (X.blk s H scope (compEnvC scope cl C X.env) fp) ifs tt)
    (he : ∀ (s : Shared) (H : Hp) (C : Addr) (cl : List (Str × Addr)) (fp : List Addr), PE (X.blk s H scope (compEnvC scope cl C X.env) fp) elt te) (hs : ∀ x, foldedSetIterable iter X.env x = pure x := by intro _; rfl) :
    PE X (.ListComp elt [⟨tg, iter, ifs, 0⟩] scope pos) (tLc wi g tt te (own.map (·.2))) := by
  intro pins s σ H Q I h
  rw [eval_ListComp]
  refine lc_core hc hN I hi ok hg ht he hs h fun D C s' m H' I' q hn f => ⟨m, hn, fun h'' sb => ?_⟩
  obtain ⟨f0, f1, f2, f3, f4, f5⟩ := f
  exact ⟨.ref D, H', I'.turned (t' := s'.toks) (fun b o hb e => (sb.2 b hb).trans e) f0 f1 f3 f4 f5, rfl, q⟩
end
theorem lc_range {lo : Int} {n : Nat} {g : TG} {tt : TT} {te : TE} {vs : List Nat} {σ : St} {H1 : Hp} {D : Addr} {Qd : Hp → Prop} (Pv : Nat → Hp → Prop) (h0 : Pv 0 (upd H1 D (.lst [])))
    (hs : ∀ i H, i < n → Pv i H → g (.int (lo + i)) (wipe σ vs) H fun σ2 H2 => wipe σ2 vs = wipe σ vs ∧ tt σ2 H2 fun b H3 =>
      if b = true then te σ2 H3 fun y H4 => ∃ acc, H4 D = some (.lst acc) ∧ acc.length < sizeLine ∧ Pv (i + 1) (upd H4 D (.lst (acc ++ [y]))) else Pv (i + 1) H3) (hd : ∀ H, Pv n H → Qd H) :
    ∃ W : Nat → Nat → Hp → Prop, (∃ m, W 0 m (upd H1 D (.lst []))) ∧ ∀ i m H, W i m H →
      ((Itr lo n).stop i H ∧ Qd H) ∨ ((Itr lo n).go i H ∧ ∃ Nx : Hp → Prop, (∀ H', Nx H' → ∃ m', m' < m ∧ W (i + 1) m' H') ∧ ∀ x H', (Itr lo n).yld i H x H' → g x (wipe σ vs) H' fun σ2 H2 => wipe σ2 vs = wipe σ vs ∧ tt σ2 H2 fun b H3 =>
        if b = true then te σ2 H3 fun y H4 => ∃ acc, H4 D = some (.lst acc) ∧ acc.length < sizeLine ∧ Nx (upd H4 D (.lst (acc ++ [y]))) else Nx H3) := by
  refine ⟨fun i m H => m = n - i ∧ i ≤ n ∧ Pv i H, ⟨n, by simp, Nat.zero_le _, h0⟩, ?_⟩
  rintro i m H ⟨rfl, hi, p⟩
  by_cases hlt : i < n
  · refine .inr ⟨hlt, Pv (i + 1), fun H' p' => ⟨n - (i + 1), by omega, rfl, hlt, p'⟩, fun x H' y => ?_⟩
    obtain ⟨e, y⟩ := y
    subst e y
    exact hs i _ hlt p
  · have e : i = n := by omega
    subst e
    exact .inl ⟨Nat.le_refl _, hd H p⟩
theorem lc_list {K : PySem.W.Frag} {a : Addr} {xs : List V} {g : TG} {tt : TT} {te : TE} {vs : List Nat} {σ : St} {H1 : Hp} {D : Addr} {Qd : Hp → Prop} (Pv : Nat → Hp → Prop) (h0 : Pv 0 (upd H1 D (.lst []))) (hl : ∀ i H, i ≤ xs.length → Pv i H → SqL K H a xs)
    (hs : ∀ i x H, xs[i]? = some x → Pv i H → g x (wipe σ vs) H fun σ2 H2 => wipe σ2 vs = wipe σ vs ∧ tt σ2 H2 fun b H3 =>
      if b = true then te σ2 H3 fun y H4 => ∃ acc, H4 D = some (.lst acc) ∧ acc.length < sizeLine ∧ Pv (i + 1) (upd H4 D (.lst (acc ++ [y]))) else Pv (i + 1) H3) (hd : ∀ H, Pv xs.length H → Qd H) :
    ∃ W : Nat → Nat → Hp → Prop, (∃ m, W 0 m (upd H1 D (.lst []))) ∧ ∀ i m H, W i m H →
      ((Itl K a).stop i H ∧ Qd H) ∨ ((Itl K a).go i H ∧ ∃ Nx : Hp → Prop, (∀ H', Nx H' → ∃ m', m' < m ∧ W (i + 1) m' H') ∧ ∀ x H', (Itl K a).yld i H x H' → g x (wipe σ vs) H' fun σ2 H2 => wipe σ2 vs = wipe σ vs ∧ tt σ2 H2 fun b H3 =>
        if b = true then te σ2 H3 fun y H4 => ∃ acc, H4 D = some (.lst acc) ∧ acc.length < sizeLine ∧ Nx (upd H4 D (.lst (acc ++ [y]))) else Nx H3) := by
  refine ⟨fun i m H => m = xs.length - i ∧ i ≤ xs.length ∧ Pv i H, ⟨xs.length, by simp, Nat.zero_le _, h0⟩, ?_⟩
  rintro i m H ⟨rfl, hi, p⟩
  have q := hl i H hi p
  by_cases hlt : i < xs.length
  · refine .inr ⟨⟨xs, xs[i], q, by simp [hlt]⟩, Pv (i + 1), fun H' p' => ⟨xs.length - (i + 1), by omega, rfl, hlt, p'⟩, fun x H' y => ?_⟩
    obtain ⟨e, y⟩ := y
    subst e
    exact hs i x _ (y xs q) p
  · have e : i = xs.length := by omega
    subst e
    exact .inl ⟨⟨xs, q, Nat.le_refl _⟩, hd H p⟩
def blkC (N : List Str) (sc scope : Scope) (own : List (Str × Nat)) : Bool :=
  (match scope.kind with | .function => true | _ => false) && (scope.names.all fun y => decide (scope.names.lookup y.1 = some y.2)) && (own.all fun p => decide (N[p.2]? = some p.1)) &&
    (scope.names.all fun y => match y.2 with
      | .free => (match sc.names.lookup y.1 with | some .cell => true | some .free => true | _ => false)
      | .local => decide (y.1 ∈ own.map (·.1)) || decide (y.1 ∉ N)
      | .cell => decide (y.1 ∈ own.map (·.1)) || decide (y.1 ∉ N)
      | _ => true)
theorem blkOk_by {N : List Str} {sc scope : Scope} {own : List (Str × Nat)} (h : blkC N sc scope own = true) : BlkOk N sc scope own := by
  unfold blkC at h
  simp only [Bool.and_eq_true, List.all_eq_true, decide_eq_true_eq] at h
  obtain ⟨⟨⟨h1, h2⟩, h3⟩, h4⟩ := h
  refine ⟨?_, h2, h3, fun y hy e => ?_, fun y hy e => ?_⟩
  · split at h1
    · assumption
    · cases h1
  · have q := h4 y hy
    simp only [e] at q
    split at q <;> first | exact .inl (by assumption) | exact .inr (by assumption) | cases q
  · have q := h4 y hy
    rcases e with e | e <;> (simp only [e, Bool.or_eq_true, decide_eq_true_eq] at q; exact q)
end L2
namespace L2
open PySem PySem.Spec PyProof.Rows
section
variable {prog : Program} {w : World} {A : Around} {R : Result → Shared → Prop} {s : Shared} {elt t0 i0 t1 i1 : Expr} {ifs0 ifs1 : List Expr} {scope : Scope} {pos : Pos} {it acc : Value} {env : Env}
end
section
variable {X : Cx}
end
end L2
namespace L2
open PySem PySem.Spec PyProof.Rows
section
variable {κ : Type} [DecidableEq κ]
def valV (kvs : List (κ × V)) (k : κ) : Option V := (kvs.find? fun kv => decide (kv.1 = k)).map (·.2)
def putK (kvs : List (κ × V)) (k : κ) (v : V) : List (κ × V) :=
  if (kvs.any fun kv => decide (kv.1 = k)) = true then kvs.map (fun kv => if kv.1 = k then (kv.1, v) else kv) else kvs ++ [(k, v)]
def dropK (kvs : List (κ × V)) (k : κ) : List (κ × V) := kvs.filter fun kv => decide (kv.1 ≠ k)
theorem valV_pos {p : κ × V} {r : List (κ × V)} {k : κ} (e : p.1 = k) : valV (p :: r) k = some p.2 := by simp [valV, List.find?_cons, e]
theorem valV_neg {p : κ × V} {r : List (κ × V)} {k : κ} (e : ¬ p.1 = k) : valV (p :: r) k = valV r k := by simp [valV, List.find?_cons, e]
theorem valV_any (k : κ) : ∀ kvs : List (κ × V), (kvs.any fun kv => decide (kv.1 = k)) = (valV kvs k).isSome
  | [] => rfl
  | p :: r => by
    rw [List.any_cons]
    by_cases e : p.1 = k
    · simp only [valV_pos e, decide_eq_true e, Bool.true_or, Option.isSome_some]
    · rw [valV_neg e, decide_eq_false e, Bool.false_or]; exact valV_any k r
theorem valV_map (k j : κ) (y : V) : ∀ kvs : List (κ × V), valV (kvs.map fun kv => if kv.1 = k then (kv.1, y) else kv) j = (valV kvs j).map fun x => if j = k then y else x
  | [] => rfl
  | p :: r => by
    have ih := valV_map k j y r
    rw [List.map_cons]
    by_cases h : p.1 = k
    · rw [if_pos h]
      by_cases e : p.1 = j
      · rw [valV_pos (p := (p.1, y)) e, valV_pos e, Option.map_some, if_pos (e.symm.trans h)]
      · rw [valV_neg (p := (p.1, y)) e, valV_neg e, ih]
    · rw [if_neg h]
      by_cases e : p.1 = j
      · rw [valV_pos (p := p) e, valV_pos e, Option.map_some, if_neg (fun z => h (e.trans z))]
      · rw [valV_neg (p := p) e, valV_neg e, ih]
theorem valV_snoc (k j : κ) (y : V) : ∀ kvs : List (κ × V), valV kvs k = none → valV (kvs ++ [(k, y)]) j = if j = k then some y else valV kvs j
  | [], _ => by
    by_cases e : k = j
    · rw [if_pos e.symm]; exact valV_pos (p := (k, y)) e
    · rw [if_neg (fun z => e z.symm)]; exact valV_neg (p := (k, y)) e
  | p :: r, hn => by
    rw [List.cons_append]
    have hk : ¬ p.1 = k := fun z => by rw [valV_pos z] at hn; cases hn
    rw [valV_neg hk] at hn
    have ih := valV_snoc k j y r hn
    by_cases e : p.1 = j
    · rw [valV_pos e, valV_pos e, if_neg (fun z => hk (e.trans z))]
    · rw [valV_neg e, valV_neg e, ih]
theorem valV_put (kvs : List (κ × V)) (k j : κ) (y : V) : valV (putK kvs k y) j = if j = k then some y else valV kvs j := by
  unfold putK
  by_cases a : (kvs.any fun kv => decide (kv.1 = k)) = true
  · rw [if_pos a, valV_map]
    rw [valV_any] at a
    by_cases e : j = k
    · obtain ⟨x, hx⟩ := Option.isSome_iff_exists.mp a
      rw [if_pos e, e, hx, Option.map_some, if_pos rfl]
    · rw [if_neg e]
      cases valV kvs j with
      | none => rfl
      | some x => rw [Option.map_some, if_neg e]
  · rw [if_neg a]
    refine valV_snoc k j y kvs ?_
    rw [valV_any] at a
    cases q : valV kvs k with
    | none => rfl
    | some x => rw [q] at a; exact (a rfl).elim
theorem length_putK (kvs : List (κ × V)) (k : κ) (v : V) : (putK kvs k v).length ≤ kvs.length + 1 := by
  unfold putK
  split
  · rw [List.length_map]; omega
  · rw [List.length_append, List.length_cons, List.length_nil]; omega
theorem putK_new {kvs : List (κ × V)} {k : κ} (v : V) (h : valV kvs k = none) : putK kvs k v = kvs ++ [(k, v)] := by
  unfold putK
  rw [valV_any, h]
  exact if_neg (by decide)
theorem RelO.isSome_eq {o : Option V} {u : Option Value} (r : RelO o u) : o.isSome = u.isSome := by
  cases o with
  | none => cases u with
    | none => rfl
    | some _ => exact (show False from r).elim
  | some _ => cases u with
    | none => exact (show False from r).elim
    | some _ => rfl
theorem KV.val {kvs : List (κ × V)} {vs : List (κ × Value)} (r : KV kvs vs) (k : κ) : RelO (valV kvs k) (valueAt vs k) := by
  unfold KV at r
  induction r with
  | nil => exact True.intro
  | @cons p q ps qs h t ih =>
    obtain ⟨h1, h2⟩ := h
    by_cases e : p.1 = k
    · have e' : q.1 = k := h1.symm.trans e
      have b : valueAt (q :: qs) k = some q.2 := by simp [valueAt, List.find?_cons, e']
      rw [valV_pos e, b]; exact h2
    · have e' : ¬ q.1 = k := fun z => e (h1.trans z)
      have b : valueAt (q :: qs) k = valueAt qs k := by simp [valueAt, List.find?_cons, e']
      rw [valV_neg e, b]; exact ih
theorem KV.any {kvs : List (κ × V)} {vs : List (κ × Value)} (r : KV kvs vs) (k : κ) : (kvs.any fun kv => decide (kv.1 = k)) = vs.any fun kv => decide (kv.1 = k) := by
  unfold KV at r
  induction r with
  | nil => rfl
  | cons h t ih => rw [List.any_cons, List.any_cons, ih, h.1]
theorem KV.repl {kvs : List (κ × V)} {vs : List (κ × Value)} (r : KV kvs vs) (k : κ) {y : V} {u : Value} (ry : RelV y u) :
    KV (kvs.map fun kv => if kv.1 = k then (kv.1, y) else kv) (vs.map fun kv => if kv.1 = k then (kv.1, u) else kv) := by
  unfold KV at r ⊢
  induction r with
  | nil => exact .nil
  | @cons p q ps qs h t ih =>
    rw [List.map_cons, List.map_cons]
    refine .cons ?_ ih
    obtain ⟨h1, h2⟩ := h
    by_cases e : p.1 = k
    · rw [if_pos e, if_pos (h1.symm.trans e)]; exact ⟨h1, ry⟩
    · rw [if_neg e, if_neg (fun z => e (h1.trans z))]; exact ⟨h1, h2⟩
theorem KV.put {kvs : List (κ × V)} {vs : List (κ × Value)} (r : KV kvs vs) (k : κ) {y : V} {u : Value} (ry : RelV y u) : KV (putK kvs k y) (stored vs k u) := by
  unfold putK stored
  rw [r.any k]
  by_cases e : (vs.any fun kv => decide (kv.1 = k)) = true
  · rw [if_pos e, if_pos e]; exact r.repl k ry
  · rw [if_neg e, if_neg e]; exact Paired.snoc r ⟨rfl, ry⟩
theorem KV.drop {kvs : List (κ × V)} {vs : List (κ × Value)} (r : KV kvs vs) (k : κ) : KV (dropK kvs k) (without vs k) := by
  unfold KV at r ⊢
  unfold dropK without
  induction r with
  | nil => exact .nil
  | @cons p q ps qs h t ih =>
    obtain ⟨h1, h2⟩ := h
    rw [List.filter_cons, List.filter_cons]
    by_cases e : p.1 = k
    · have a : ¬ decide (p.1 ≠ k) = true := by simp [e]
      have b : ¬ decide (q.1 ≠ k) = true := by simp [h1.symm.trans e]
      rw [if_neg a, if_neg b]; exact ih
    · have e' : ¬ q.1 = k := fun z => e (h1.trans z)
      have a : decide (p.1 ≠ k) = true := by simp [e]
      have b : decide (q.1 ≠ k) = true := by simp [e']
      rw [if_pos a, if_pos b]; exact .cons ⟨h1, h2⟩ ih
theorem KV.length {kvs : List (κ × V)} {vs : List (κ × Value)} (r : KV kvs vs) : kvs.length = vs.length := Paired.length r
theorem dropK_le (kvs : List (κ × V)) (k : κ) : (dropK kvs k).length ≤ kvs.length := List.length_filter_le _ _
end
theorem kV_is {P : Program} {w : World} {k : Key} {u : Value} (r : RelV (kV k) u) : (mixKind P w).is k u = true := by
  cases k with
  | inl i => obtain ⟨t, e⟩ := (show ∃ t, u = Value.int i t from r); subst e; exact mixKind_int P w i t
  | inr x => obtain ⟨t, e⟩ := (show ∃ t, u = Value.str x t from r); subst e; exact mixKind_str P w x t
theorem items_are {P : Program} {w : World} : ∀ {ks : List Key} {us : List Value}, Vals (ks.map kV) us → ItemsAre (mixKind P w) ks us
  | [], _, r => by rw [List.map_nil] at r; cases r; exact .nil
  | k :: ks, _, r => by
    rw [List.map_cons] at r
    cases r with
    | cons h t => exact .cons (kV_is h) (items_are t)
abbrev KT (H : Hp) : List (List Key × V) → List (List Key × Addr × Value) → Prop := Paired fun p q => p.1 = q.1 ∧ H q.2.1 = some (.tup (p.1.map kV)) ∧ RelV p.2 q.2.2
theorem KT.val {H : Hp} {kvs : List (List Key × V)} {xs : List (List Key × Addr × Value)} (r : KT H kvs xs) (k : List Key) : RelO (valV kvs k) ((atKey xs k).map (·.2)) := by
  induction r with
  | nil => exact True.intro
  | @cons p q ps qs h t ih =>
    obtain ⟨h1, _, h2⟩ := h
    by_cases e : p.1 = k
    · have e' : q.1 = k := h1.symm.trans e
      have b : atKey (q :: qs) k = some q.2 := by simp [atKey, List.find?_cons, e']
      rw [valV_pos e, b]; exact h2
    · have e' : ¬ q.1 = k := fun z => e (h1.trans z)
      have b : atKey (q :: qs) k = atKey qs k := by simp [atKey, List.find?_cons, e']
      rw [valV_neg e, b]; exact ih
theorem KT.repl {H : Hp} {kvs : List (List Key × V)} {xs : List (List Key × Addr × Value)} (r : KT H kvs xs) (k : List Key) {y : V} {u : Value} (ry : RelV y u) :
    KT H (kvs.map fun kv => if kv.1 = k then (kv.1, y) else kv) (xs.map (putAt k u)) := by
  induction r with
  | nil => exact .nil
  | @cons p q ps qs h t ih =>
    rw [List.map_cons, List.map_cons]
    refine .cons ?_ ih
    obtain ⟨h1, h2, h3⟩ := h
    unfold putAt
    by_cases e : p.1 = k
    · rw [if_pos e, if_pos (h1.symm.trans e)]; exact ⟨h1, h2, ry⟩
    · rw [if_neg e, if_neg (fun z => e (h1.trans z))]; exact ⟨h1, h2, h3⟩
theorem KT.put {H : Hp} {kvs : List (List Key × V)} {xs : List (List Key × Addr × Value)} (r : KT H kvs xs) (k : List Key) {b : Addr} {y : V} {u : Value} (hb : H b = some (.tup (k.map kV))) (ry : RelV y u) :
    KT H (putK kvs k y) (storedH xs k b u) := by
  have e : (kvs.any fun kv => decide (kv.1 = k)) = (atKey xs k).isSome := by
    rw [valV_any, (r.val k).isSome_eq, Option.isSome_map]
  unfold putK storedH
  rw [e]
  by_cases q : (atKey xs k).isSome = true
  · rw [if_pos q, if_pos q]; exact r.repl k ry
  · rw [if_neg q, if_neg q]; exact Paired.snoc r ⟨rfl, hb, ry⟩
theorem KT.keeps {H H' : Hp} {kvs : List (List Key × V)} {xs : List (List Key × Addr × Value)} (r : KT H kvs xs) (ht : ∀ b ys, H b = some (.tup ys) → H' b = some (.tup ys)) : KT H' kvs xs :=
  Paired.mapP r fun _ _ z => ⟨z.1, ht _ _ z.2.1, z.2.2⟩
section
variable {P : Program} {w : World} {H : Hp} {h : Heap} {a : Addr}
theorem rd_of {u : HO} (ok : HOk P w H h) (e : Rd H a u) : ObjOk P w H h a u := e.ok ok
theorem dk_rd {kvs : List (Key × V)} (ok : HOk P w H h) (e : Rd H a (.dK kvs)) : kvs.length ≤ sizeLine ∧ (a == sysModules) = false ∧ ∃ vs, KV kvs vs ∧ h.DictOf (mixKind P w) a vs :=
  show ObjOk P w H h a (.dK kvs) from rd_of ok e
theorem dk_of {kvs : List (Key × V)} (ok : HOk P w H h) (e : H a = some (.dK kvs)) : kvs.length ≤ sizeLine ∧ (a == sysModules) = false ∧ ∃ vs, KV kvs vs ∧ h.DictOf (mixKind P w) a vs := dk_rd ok (.inl e)
theorem key_of {ks : List Key} (ok : HOk P w H h) (e : H a = some (.tup (ks.map kV))) : (tupleKind (mixKind P w)).is h ks a := by
  obtain ⟨_, its, r, o, h1, h2, n, h3⟩ := (show ObjOk P w H h a (.tup (ks.map kV)) from ok a _ e)
  exact ⟨o, its.toArray, n, h1, h2, h3, by simpa using items_are r⟩
theorem dt_rd {kvs : List (List Key × V)} (ok : HOk P w H h) (e : Rd H a (.dT kvs)) : kvs.length ≤ sizeLine ∧ (a == sysModules) = false ∧
    ∃ xs, KT H kvs xs ∧ h.DictOfH (tupleKind (mixKind P w)) a xs := by
  obtain ⟨z, y, xs, r, o, es, ep, h1, h2, h3, h4, h5⟩ := (show ObjOk P w H h a (.dT kvs) from rd_of ok e)
  refine ⟨z, y, xs, r, o, es, ep, h1, h2, h3, h4, fun x hx => ?_, h5⟩
  have all : ∀ {l : List (List Key × V)} {m : List (List Key × Addr × Value)}, KT H l m → ∀ x ∈ m, (tupleKind (mixKind P w)).is h x.1 x.2.1 := by
    intro l m q
    induction q with
    | nil => intro x hx; exact nomatch hx
    | @cons p q ps qs hq t ih =>
      intro x hx
      rcases List.mem_cons.mp hx with e | hx
      · subst e
        exact key_of ok (by rw [← hq.1]; exact hq.2.1)
      · exact ih x hx
  exact all r x hx
theorem dt_of {kvs : List (List Key × V)} (ok : HOk P w H h) (e : H a = some (.dT kvs)) : kvs.length ≤ sizeLine ∧ (a == sysModules) = false ∧
    ∃ xs, KT H kvs xs ∧ h.DictOfH (tupleKind (mixKind P w)) a xs := dt_rd ok (.inl e)
end
def DGet (H : Hp) (a : Addr) (y : V) (r : Option V) : Prop :=
  (∃ kvs k, Rd H a (.dK kvs) ∧ y = kV k ∧ r = valV kvs k) ∨ ∃ kvs k b, Rd H a (.dT kvs) ∧ y = .ref b ∧ H b = some (.tup (k.map kV)) ∧ r = valV kvs k
def DPut (H : Hp) (a : Addr) (y v : V) (H' : Hp) : Prop :=
  (∃ kvs k, H a = some (.dK kvs) ∧ y = kV k ∧ kvs.length < sizeLine ∧ H' = upd H a (.dK (putK kvs k v))) ∨
  ∃ kvs k b, H a = some (.dT kvs) ∧ y = .ref b ∧ H b = some (.tup (k.map kV)) ∧ kvs.length < sizeLine ∧ H' = upd H a (.dT (putK kvs k v))
theorem DGet.k {H : Hp} {a : Addr} {kvs : List (Key × V)} {k : Key} (e : H a = some (.dK kvs)) : DGet H a (kV k) (valV kvs k) := .inl ⟨kvs, k, .inl e, rfl, rfl⟩
theorem DPut.k {H : Hp} {a : Addr} {kvs : List (Key × V)} {k : Key} {v : V} (e : H a = some (.dK kvs)) (hl : kvs.length < sizeLine) : DPut H a (kV k) v (upd H a (.dK (putK kvs k v))) := .inl ⟨kvs, k, e, rfl, hl, rfl⟩
section
variable {X : Cx} {pins : List (Addr × Obj)} {σ : St} {H : Hp} {s : Shared} {a : Addr} {y v : V} {u r : Value} {o : Option V} {A : Around} {E : Value → Shared → Prop}
theorem Inv.big (I : Inv X pins σ H s) : sysModules < s.heap.objs.size := by
  have h : mainGlobals < s.heap.objs.size := (I.mod.glob.keeps I.bk).lt
  exact Nat.lt_trans (by decide) h
theorem d_getItem {Q : Value → Shared → Prop} (hu : A.units + 1 < cLine) (I : Inv X pins σ H s) (g : DGet H a y (some v)) (ry : RelV y u) (h : ∀ w' s', Inv X pins σ H s' → RelV v w' → Q w' s') :
    wpAny (model X.prog X.w) A (getItem (.ref a) u) Q E s := by
  rcases g with ⟨kvs, k, e, ey, l⟩ | ⟨kvs, k, b, e, ey, eb, l⟩
  · subst ey
    obtain ⟨z, hd, vs, rel, dd⟩ := dk_rd I.hok e
    obtain ⟨w', hw, rw'⟩ := RelO.some_of (v := v) (o := valueAt vs k) (by rw [l]; exact rel.val k)
    exact wpAny_getItem_of (kV_is ry) dd.mapOf hw (h w' _ (I.tok _) rw')
  · subst ey
    cases (show u = Value.ref b from ry)
    obtain ⟨z, hd, xs, rel, dd⟩ := dt_rd I.hok e
    obtain ⟨w', hw, rw'⟩ := RelO.some_of (v := v) (o := (atKey xs k).map (·.2)) (by rw [l]; exact rel.val k)
    obtain ⟨p, hp, hp2⟩ := Option.map_eq_some_iff.mp hw
    refine wpAny_getItem_heap (tupleKind_room_in1 hu) (key_of I.hok eb) dd hp ?_
    rw [hp2]
    exact h w' _ (I.tok _) rw'
theorem d_notIn {Q : Value → Shared → Prop} (hu : A.units + 1 < cLine) (I : Inv X pins σ H s) (g : DGet H a y o) (ry : RelV y u) (h : ∀ s', Inv X pins σ H s' → Q (.bool (!o.isSome)) s') :
    wpAny (model X.prog X.w) A (compareOp .NotIn u (.ref a)) Q E s := by
  rcases g with ⟨kvs, k, e, ey, l⟩ | ⟨kvs, k, b, e, ey, eb, l⟩
  · subst ey
    obtain ⟨z, hd, vs, rel, dd⟩ := dk_rd I.hok e
    refine wpAny_notIn_of (kV_is ry) hd dd.mapOf ?_
    rw [← (rel.val k).isSome_eq, ← l]
    exact h _ (I.tok _)
  · subst ey
    cases (show u = Value.ref b from ry)
    obtain ⟨z, hd, xs, rel, dd⟩ := dt_rd I.hok e
    refine wpAny_notIn_heap (tupleKind_room_in1 hu) (key_of I.hok eb) hd dd ?_
    have q := (rel.val k).isSome_eq
    rw [Option.isSome_map] at q
    rw [← q, ← l]
    exact h _ (I.tok _)
theorem d_write {h' : Heap} {t' : Nat} {ob : HO} (I : Inv X pins σ H s) (mu : Mut (H a)) (hs : Heap.SameBut a s.heap h') (he : ∃ q, h'.get? a = some q) (new : ObjOk X.prog X.w (upd H a ob) h' a ob) :
    Inv X pins σ (upd H a ob) { s with heap := h', toks := t' } :=
  I.write (x := a) (e := a) mu (.inl rfl) (fun b q hb z => (hs.2 b hb).trans z) he new
theorem dk_new {P : Program} {w : World} {H' : Hp} {h' : Heap} {kvs : List (Key × V)} {vs : List (Key × Value)} (z : kvs.length ≤ sizeLine) (hd : (a == sysModules) = false) (rel : KV kvs vs) (dd : h'.DictOf (mixKind P w) a vs) :
    ObjOk P w H' h' a (.dK kvs) := ⟨z, hd, vs, rel, dd⟩
theorem d_setItem {H' : Hp} {Q : Unit → Shared → Prop} (hu : A.units + 1 < cLine) (I : Inv X pins σ H s) (g : DPut H a y v H') (ry : RelV y u) (rv : RelV v r) (h : ∀ s', Inv X pins σ H' s' → Q () s') :
    wpAny (model X.prog X.w) A (setItem (.ref a) u r) Q E s := by
  rcases g with ⟨kvs, k, e, ey, l, eH⟩ | ⟨kvs, k, b, e, ey, eb, l, eH⟩
  · subst ey eH
    obtain ⟨z, hd, vs, rel, dd⟩ := dk_of I.hok e
    have hz : vs.length ≤ sizeLine := by rw [← rel.length]; exact z
    have hl : (putK kvs k v).length ≤ sizeLine := by have := length_putK kvs k v; omega
    refine wpAny_setItem_pairs (hsz := hz) (kV_is ry) dd fun h' dd' hs => h _ ?_
    have he : ∃ q, h'.get? a = some q := let ⟨q, _, _, hq, _⟩ := dd'; ⟨q, hq⟩
    exact d_write I (by rw [e]; exact True.intro) hs he (dk_new hl hd (rel.put k rv) dd')
  · subst ey eH
    cases (show u = Value.ref b from ry)
    obtain ⟨z, hd, xs, rel, dd⟩ := dt_of I.hok e
    have hz : xs.length ≤ sizeLine := by rw [← Paired.length rel]; exact z
    have hl : (putK kvs k v).length ≤ sizeLine := by have := length_putK kvs k v; omega
    refine wpAny_setItem_heap (hsz := hz) (tupleKind_room_in1 hu) (key_of I.hok eb) dd fun h' dd' hs => h _ ?_
    obtain ⟨q, es, ep, hq, h2, h3, h4, _, h5⟩ := dd'
    refine d_write I (by rw [e]; exact True.intro) hs ⟨q, hq⟩ ⟨hl, hd, _, (rel.put k eb rv).keeps fun c ys ec => ?_, q, es, ep, hq, h2, h3, h4, h5⟩
    rw [upd_ne (ne_of ec e (fun z => nomatch z))]
    exact ec
end
section
variable {X : Cx} {pins : List (Addr × Obj)} {σ : St} {H : Hp} {s : Shared} {a : Addr} {kvs : List (Key × V)} {k : Key} {u : Value} {A : Around} {E : Value → Shared → Prop}
theorem d_delItem {Q : Unit → Shared → Prop} (I : Inv X pins σ H s) (e : H a = some (.dK kvs)) (ry : RelV (kV k) u) (l : (valV kvs k).isSome = true) (h : ∀ s', Inv X pins σ (upd H a (.dK (dropK kvs k))) s' → Q () s') :
    wpAny (model X.prog X.w) A (delItem (.ref a) u) Q E s := by
  obtain ⟨z, hd, vs, rel, dd⟩ := dk_of I.hok e
  refine wpAny_delItem_slot dd.typeIs (by decide) PySem.F.slot_dict_delitem
    (call_meetsIn PySem.F.slot_dict_delitem dd.typeIs PySem.F.entry_dict_delitem (PySem.F.args_dict_delitem_2 _ _) (meets_dict_delitem_pairs (mixKind X.prog X.w) a (kV_is ry)) ⟨vs, dd, by rw [← rel.length]; exact z, by rw [← (rel.val k).isSome_eq]; exact l, fun h' dd' hs => h _ ?_⟩)
  have he : ∃ q, h'.get? a = some q := let ⟨q, _, _, hq, _⟩ := dd'; ⟨q, hq⟩
  exact d_write I (by rw [e]; exact True.intro) hs he (dk_new (Nat.le_trans (dropK_le kvs k) z) hd (rel.drop k) dd')
theorem d_pop {v : V} {more : List Value} {Q : Value → Shared → Prop} (I : Inv X pins σ H s) (e : H a = some (.dK kvs)) (ry : RelV (kV k) u) (l : valV kvs k = some v) (hm : more = [] ∨ ∃ x, more = [x])
    (h : ∀ w' s', Inv X pins σ (upd H a (.dK (dropK kvs k))) s' → RelV v w' → Q w' s') : wpAny (model X.prog X.w) A (call (.builtin "dict.pop") (.ref a :: u :: more)) Q E s := by
  obtain ⟨z, hd, vs, rel, dd⟩ := dk_of I.hok e
  obtain ⟨w', hw, rw'⟩ := RelO.some_of (v := v) (o := valueAt vs k) (by rw [← l]; exact rel.val k)
  have hp : (keyPart u).isSome = true := by
    cases k with
    | inl i => obtain ⟨t, q⟩ := (show ∃ t, u = Value.int i t from ry); subst q; rfl
    | inr x => obtain ⟨t, q⟩ := (show ∃ t, u = Value.str x t from ry); subst q; rfl
  have ha : argsOk "dict.pop" ⟨.ref a :: u :: more, []⟩ := by
    rcases hm with q | ⟨x, q⟩
    · subst q; exact PySem.F.args_dict_pop_2 _ _
    · subst q; exact PySem.F.args_dict_pop_3 _ _ _
  refine call_meetsIn PySem.F.slot_dict_pop dd.typeIs PySem.F.entry_dict_pop ha (meets_dict_pop_there (mixKind X.prog X.w) a (kV_is ry) more hm hp)
    ⟨vs, w', dd, by rw [← rel.length]; exact z, hw, fun h' dd' hs => h w' _ ?_ rw'⟩
  have he : ∃ q, h'.get? a = some q := let ⟨q, _, _, hq, _⟩ := dd'; ⟨q, hq⟩
  exact d_write I (by rw [e]; exact True.intro) hs he (dk_new (Nat.le_trans (dropK_le kvs k) z) hd (rel.drop k) dd')
end
def NoSl (i : Expr) : Prop := ∀ ov iv, subscripted i false ov iv = operate [ov, iv] (getItem ov iv)
theorem subD_of {prog : Program} {w : World} {A : Around} {E : Value → Shared → Prop} {s : Shared} {env : Env} {value slice : Expr} {pos : Pos} {T id : String} {Q : Value → Shared → Prop}
    (hl : typeLookup (.type T) "__getitem__" = pure (some (.builtin id))) (hs : NoSl slice)
    (h : wpAny (model prog w) A (eval value env) (fun o s₁ => wpAny (model prog w) A (eval slice env) (fun i s₂ => s₂.TypeIs o T ∧ wpAny (model prog w) A (getItem o i) Q E s₂) E s₁) E s) :
    wpAny (model prog w) A (eval (.Subscript value slice pos) env) Q E s := by
  refine Subscript_ (wpAny_mono h (fun o s₁ h₁ => wpAny_mono h₁ (fun i s₂ h₂ => ?_) fun _ _ x => x) fun _ _ x => x)
  obtain ⟨hT, h₂⟩ := h₂
  unfold subscriptTail
  refine wpAny_bind ?_
  rw [getitemInPython_of_ne hT.not_modules]
  refine wpAny_bind (wpAny_specialOf hT hl ?_)
  have fin : wpAny (model prog w) A (subscripted slice false o i) (fun r s₃ => wpAny (model prog w) A (letTemporaryGo value o r >>= fun _ => pure r) Q E s₃) E s₂ := by
    rw [hs o i]
    exact wpAny_operating (wpAny_mono h₂ (fun r s₃ h₃ => wpAny_bind (wpAny_letTemporaryGo (wpAny_pure h₃))) fun _ _ x => x)
  first
    | exact wpAny_pure (wpAny_bind fin)
    | exact wpAny_bind (wpAny_pure (wpAny_bind fin))
    | exact wpAny_bind fin
theorem dict_typeIs {X : Cx} {pins : List (Addr × Obj)} {σ : St} {H : Hp} {s : Shared} {a : Addr} {y : V} {o : Option V} (I : Inv X pins σ H s) (g : DGet H a y o) : s.TypeIs (.ref a) "dict" := by
  rcases g with ⟨kvs, k, e, _, _⟩ | ⟨kvs, k, b, e, _, _, _⟩
  · obtain ⟨_, _, vs, _, dd⟩ := dk_rd I.hok e
    exact dd.typeIs
  · obtain ⟨_, _, xs, _, dd⟩ := dt_rd I.hok e
    exact dd.typeIs
def tDGet (td ty : TE) : TE := fun σ H Q => td σ H fun x H1 => ty σ H1 fun y H2 => ∃ a v, x = .ref a ∧ DGet H2 a y (some v) ∧ Q v H2
def tDNotIn (ty td : TE) : TE := fun σ H Q => ty σ H fun y H1 => td σ H1 fun x H2 => ∃ a o, x = .ref a ∧ DGet H2 a y o ∧ Q (.bl (!o.isSome)) H2
def sDPut (td ty tv : TE) : TS := fun D σ H => tv σ H fun v H1 => td σ H1 fun x H2 => ty σ H2 fun y H3 => ∃ a H4, x = .ref a ∧ DPut H3 a y v H4 ∧ D.nx σ H4
section
variable {X : Cx} {o i e value : Expr} {pos pos' tpos : Pos} {td ty tv : TE}
theorem pe_dget (hu : X.A.units + 1 < cLine) (ho : PE X o td) (hi : PE X i ty) (hs : NoSl i) : PE X (.Subscript o i pos) (tDGet td ty) := by
  intro pins s σ H Q I h
  refine subD_of PySem.F.slot_dict_getitem.lookup hs (thn (ho pins s σ H _ I h) fun u s1 ⟨x, H1, I1, rx, q1⟩ => thn (hi pins s1 σ H1 _ I1 q1) fun iv s2 ⟨y, H2, I2, ry, a, v, ex, g, q2⟩ => ?_)
  subst ex
  obtain rfl : u = Value.ref a := rx
  exact ⟨dict_typeIs I2 g, d_getItem hu I2 g ry fun w' s3 I3 rw' => ⟨v, H2, I3, rw', q2⟩⟩
theorem pc_dnotin (hu : X.A.units + 1 < cLine) (hi : PE X i ty) (ho : PE X o td) : PC X .NotIn i o (tDNotIn ty td) := by
  intro pins s σ H Q I h
  refine thn (hi pins s σ H _ I h) fun iv s1 ⟨y, H1, I1, ry, q1⟩ => thn (ho pins s1 σ H1 _ I1 q1) fun u s2 ⟨x, H2, I2, rx, a, ov, ex, g, q2⟩ => ?_
  subst ex
  obtain rfl : u = Value.ref a := rx
  exact d_notIn hu I2 g ry fun s3 I3 => ⟨.bl (!ov.isSome), H2, I3, rfl, q2⟩
theorem ps_dput (hu : X.A.units + 1 < cLine) (ho : PE X o td) (hi : PE X i ty) (hv : PE X value tv) (hs : swapsWith value (some (.Subscript o i pos')) pos.line X.env = pure false) :
    PS X (.Assign [.Subscript o i pos'] value pos) (sDPut td ty tv) := by
  intro pins s σ H D I h
  refine wpAny_Assign_Subscript (thn (hv pins s σ H _ I h) fun r s1 ⟨v, H1, I1, rv, q1⟩ => thn (ho pins s1 σ H1 _ I1 q1) fun u s2 ⟨x, H2, I2, rx, q2⟩ => thn (hi pins s2 σ H2 _ I2 q2) fun iv s3 ⟨y, H3, I3, ry, a, H4, ex, g, q3⟩ => ?_) hs
  subst ex
  obtain rfl : u = Value.ref a := rx
  exact d_setItem hu I3 g ry rv fun s4 I4 => ⟨σ, H4, I4, q3⟩
end
theorem dk_empty {P : Program} {w : World} {H : Hp} (h : Heap) (hb : sysModules < h.objs.size) : ObjOk P w H (h.push { cls := .type "dict", data := .dict #[] }) h.objs.size (.dK []) :=
  ⟨Nat.zero_le _, beq_eq_false_iff_ne.mpr (Ne.symm (Nat.ne_of_lt hb)), [], .nil, Heap.DictOf.new h⟩
def tDNewK : TE := fun _ H Q => ∀ p, H p = none → Q (.ref p) (upd H p (.dK []))
section
variable {X : Cx} {pos : Pos}
theorem pe_dnewK : PE X (.Dict [] [] pos) tDNewK := fun pins s σ H Q I h =>
  wpAny_Dict_empty ⟨.ref s.heap.objs.size, _, I.laid (a := s.heap.objs.size) (o := .dK []) (t' := s.toks) (fun _ _ q => Heap.get?_push_of_some _ q) (Nat.le_refl _) (dk_empty s.heap I.big), rfl, h _ (I.hok.fresh (Nat.le_refl _))⟩
end
def tPairs : List (TE × TE) → St → Hp → (List (V × V) → Hp → Prop) → Prop
  | [], _, H, Q => Q [] H
  | (tk, tv) :: r, σ, H, Q => tk σ H fun x H1 => tv σ H1 fun y H2 => tPairs r σ H2 fun ps H3 => Q ((x, y) :: ps) H3
abbrev VV : List (V × V) → List (Value × Value) → Prop := Paired fun p q => RelV p.1 q.1 ∧ RelV p.2 q.2
def PPs (X : Cx) (pos : Pos) (keys : List (Option Expr)) (values : List Expr) (trs : List (TE × TE)) : Prop :=
  ∀ (pins : List (Addr × Obj)) (s : Shared) (σ : St) (H : Hp) (Q : List (V × V) → Hp → Prop), Inv X pins σ H s → tPairs trs σ H Q →
    wpAny (model X.prog X.w) X.A (evalPairs (pairTrees keys values X.env pos)) (fun vs s' => ∃ ps H', Inv X pins σ H' s' ∧ VV ps vs ∧ Q ps H') X.xe s
theorem pps_nil {X : Cx} {pos : Pos} : PPs X pos [] [] [] := fun pins s σ H Q I h => pairTrees_nil_walk ⟨[], H, I, .nil, h⟩
theorem pps_cons {X : Cx} {pos : Pos} {k v : Expr} {ks : List (Option Expr)} {vs : List Expr} {tk tv : TE} {trs : List (TE × TE)} (hk : PE X k tk) (hv : PE X v tv) (hr : PPs X pos ks vs trs) :
    PPs X pos (some k :: ks) (v :: vs) ((tk, tv) :: trs) := fun pins s σ H Q I h =>
  pairTrees_cons_walk (thn (hk pins s σ H _ I h) fun u s1 ⟨x, H1, I1, rx, q1⟩ => thn (hv pins s1 σ H1 _ I1 q1) fun w2 s2 ⟨y, H2, I2, ry, q2⟩ =>
    thn (hr pins s2 σ H2 _ I2 q2) fun ws s3 ⟨ps, H3, I3, rel, q3⟩ => ⟨(x, y) :: ps, H3, I3, .cons ⟨rx, ry⟩ rel, q3⟩)
def mergeK (kvs more : List (Key × V)) : List (Key × V) := more.foldl (fun acc kv => putK acc kv.1 kv.2) kvs
theorem KV.merge : ∀ {more : List (Key × V)} {rs : List (Key × Value)} {kvs : List (Key × V)} {vs : List (Key × Value)}, KV more rs → KV kvs vs → KV (mergeK kvs more) (merged vs rs) := by
  intro more rs kvs vs r
  unfold KV at r
  induction r generalizing kvs vs with
  | nil => intro q; exact q
  | @cons p q ps qs h t ih =>
    intro r0
    have e : KV (putK kvs p.1 p.2) (stored vs q.1 q.2) := by
      have := r0.put p.1 h.2
      rw [← h.1]; exact this
    exact ih e
theorem length_mergeK : ∀ (more kvs : List (Key × V)), (mergeK kvs more).length ≤ kvs.length + more.length
  | [], kvs => by show kvs.length ≤ kvs.length + 0; omega
  | p :: r, kvs => by
    have h1 := length_mergeK r (putK kvs p.1 p.2)
    have h2 := length_putK kvs p.1 p.2
    show (mergeK (putK kvs p.1 p.2) r).length ≤ _
    rw [List.length_cons]; omega
theorem carries_of {P : Program} {w : World} : ∀ {kvs : List (Key × V)} {ws : List (Value × Value)}, VV (kvs.map fun kv => (kV kv.1, kv.2)) ws → ∃ rs, Carries (mixKind P w) ws rs ∧ KV kvs rs
  | [], _, r => by rw [List.map_nil] at r; cases r; exact ⟨[], True.intro, .nil⟩
  | p :: kvs, _, r => by
    rw [List.map_cons] at r
    cases r with
    | @cons a b as bs h t =>
      obtain ⟨rs, c, q⟩ := carries_of (P := P) (w := w) t
      obtain ⟨b1, b2⟩ := b
      exact ⟨(p.1, b2) :: rs, ⟨kV_is h.1, rfl, c⟩, .cons ⟨rfl, h.2⟩ q⟩
def tDisp (trs : List (TE × TE)) : TE := fun σ H Q => ∀ p, H p = none → tPairs trs σ (upd H p (.dK [])) fun ps H2 => H2 p = some (.dK []) ∧ ∃ kvs : List (Key × V), ps = kvs.map (fun kv => (kV kv.1, kv.2)) ∧ kvs.length ≤ 15 ∧ Q (.ref p) (upd H2 p (.dK (mergeK [] kvs)))
theorem pe_disp {X : Cx} {pos : Pos} {keys : List (Option Expr)} {values : List Expr} {trs : List (TE × TE)} (h : PPs X pos keys values trs) (hall : keys.all (·.isSome) = true) (hl : keys.length = values.length) (h0 : keys ≠ [])
    (h15 : keys.length ≤ 15) : PE X (.Dict keys values pos) (tDisp trs) := by
  intro pins s σ H Q I q
  have hn := I.hok.fresh (Nat.le_refl s.heap.objs.size)
  have I1 := I.laid (a := s.heap.objs.size) (o := .dK []) (h' := s.heap.push { cls := .type "dict", data := .dict #[] }) (t' := s.toks) (fun _ _ q => Heap.get?_push_of_some _ q) (Nat.le_refl _) (dk_empty s.heap I.big)
  refine wpAny_Dict_walk (knd := mixKind X.prog X.w) hall hl h0 h15 (thn (h pins _ σ _ _ I1 (q _ hn)) fun ws s2 ⟨ps, H2, I2, rel, e, kvs, ep, lk, q2⟩ => ?_)
  subst ep
  obtain ⟨rs, c, rk⟩ := carries_of (P := X.prog) (w := X.w) rel
  obtain ⟨z, hd, vs0, r0, dd⟩ := dk_of I2.hok e
  cases r0
  refine ⟨rs, c, dd, fun h' dd' hs => ⟨.ref s.heap.objs.size, _, ?_, rfl, q2⟩⟩
  have hz : (mergeK [] kvs).length ≤ sizeLine := by
    have h1 := length_mergeK kvs []
    rw [List.length_nil] at h1
    rw [sizeLine_eq]; omega
  have he : ∃ q, h'.get? s.heap.objs.size = some q := let ⟨q, _, _, hq, _⟩ := dd'; ⟨q, hq⟩
  exact d_write I2 (by rw [e]; exact True.intro) hs he (dk_new hz hd (rk.merge .nil) dd')
structure M1 (X : Cx) (o : Expr) (m : Str) (apos : Pos) (e : Expr) (cpos : Pos) : Prop where
  base : attributeBase o m X.env (eval o X.env) = eval o X.env
  few : ((backTo cpos (starEach [e] X.env)).all (fun x => !x.1) && (backToKw cpos (keywordEach [] X.env)).all (fun x => x.1.isSome)
    && decide (([e] : List Expr).length + ([] : List Keyword).length + (if ([] : List Keyword).isEmpty then 0 else 1) < 30)) = true
  line : (apos.endLine == cpos.line) = true
  trees : backTo cpos (starEach [e] X.env) = [(false, eval e X.env)]
def IsD (H : Hp) (a : Addr) : Prop := (∃ kvs, Rd H a (.dK kvs)) ∨ ∃ kvs, Rd H a (.dT kvs)
theorem isD_at {X : Cx} {pins : List (Addr × Obj)} {σ : St} {H : Hp} {s : Shared} {a : Addr} (I : Inv X pins σ H s) (d : IsD H a) :
    s.TypeIs (.ref a) "dict" ∧ (∀ b, Value.ref a = .ref b → ∃ ob, s.heap.get? b = some ob ∧ ob.dict = none) ∧ (a == sysModules) = false := by
  rcases d with ⟨kvs, e⟩ | ⟨kvs, e⟩
  · obtain ⟨_, hd, vs, _, dd⟩ := dk_rd I.hok e
    refine ⟨dd.typeIs, fun b q => ?_, hd⟩
    cases q
    obtain ⟨ob, _, _, h1, h2, _⟩ := dd
    exact ⟨ob, h1, h2.2.1⟩
  · obtain ⟨_, hd, xs, _, dd⟩ := dt_rd I.hok e
    refine ⟨dd.typeIs, fun b q => ?_, hd⟩
    cases q
    obtain ⟨ob, _, _, h1, h2, _⟩ := dd
    exact ⟨ob, h1, h2.2.1⟩
section
variable {X : Cx} {pins : List (Addr × Obj)} {σ : St} {H : Hp} {s : Shared} {a : Addr} {y d : V} {u r : Value} {o : Option V} {A : Around} {E : Value → Shared → Prop}
end
def tDPop1 (td ty : TE) : TE := fun σ H Q => td σ H fun x H1 => ∃ a, x = .ref a ∧ IsD H1 a ∧ ty σ H1 fun y H2 => ∃ kvs k v, H2 a = some (.dK kvs) ∧ y = kV k ∧ valV kvs k = some v ∧ Q v (upd H2 a (.dK (dropK kvs k)))
section
variable {X : Cx} {o e f : Expr} {apos cpos : Pos} {td ty tx : TE}
theorem pe_dpop1 (ho : PE X o td) (he : PE X e ty) (m : M1 X o "pop" apos e cpos) : PE X (.Call (.Attribute o "pop" apos) [e] [] cpos) (tDPop1 td ty) := by
  intro pins s σ H Q I h
  refine wpAny_Call_method m.base m.few m.line PySem.F.plainAttrs_dict PySem.F.slot_dict_pop PySem.F.type_dict_pop (thn (ho pins s σ H _ I h) fun u s1 ⟨x, H1, I1, rx, a, ex, d, q1⟩ => ?_)
  subst ex
  obtain rfl : u = Value.ref a := rx
  obtain ⟨t1, t2, _⟩ := isD_at I1 d
  refine ⟨t1, t2, ?_⟩
  rw [m.trees]
  refine Calls.callWith_builtin rfl (Calls.evalArgs_plain (Calls.spliced_cons (thn (he pins s1 σ H1 _ I1 q1) fun iv s2 ⟨y, H2, I2, ry, kvs, k, v, ea, ey, l, q2⟩ => Calls.spliced_nil ?_)))
  subst ey
  exact d_pop I2 ea ry l (.inl rfl) fun w' s3 I3 rw' => ⟨v, _, I3, rw', q2⟩
end
section
variable {X : Cx} {pins : List (Addr × Obj)} {σ : St} {H : Hp} {s : Shared} {a : Addr} {kvs : List (Key × V)} {A : Around} {E : Value → Shared → Prop}
end
section
variable {X : Cx} {pins : List (Addr × Obj)} {σ : St} {H : Hp} {s : Shared} {a : Addr} {y : V} {u : Value} {A : Around} {E : Value → Shared → Prop}
end
end L2
namespace L2
open PySem PySem.Spec PyProof.Rows
section
variable {prog : Program} {w : World} {A : Around} {E : Value → Shared → Prop}
end
section
variable {X : Cx}
end
end L2
namespace L2
open PySem PySem.Spec PyProof.Rows
section
variable {X : Cx} {pins : List (Addr × Obj)} {σ : St} {H : Hp} {s : Shared} {h' : Heap}
theorem Inv.turnedL {t' : Nat} {ch : List Addr} (I : Inv X pins σ H s) (k : ∀ b o, b ∉ ch → s.heap.get? b = some o → h'.get? b = some o) (hf : ∀ b ∈ ch, FpOk X pins H b) : Inv X pins σ H { s with heap := h', toks := t' } := by
  have nit : ∀ b u, H b = some u → b ∉ ch := fun b u e z => by
    have q := (hf b z).1
    rw [q] at e; cases e
  refine I.step (g' := s.gens) (d' := s.drawn) (ch := ch) (fun b hb => ⟨(hf b hb).2.2.2.1, (hf b hb).2.1, (hf b hb).2.2.2.2.1, (hf b hb).2.2.2.2.2⟩) (fun b o _ _ hc e _ => k b o hc e) (fun b o _ _ hc e _ => ⟨o.slots, k b o hc e⟩)
    (fun _ _ _ _ n => n) (fun b o hc e => ⟨o, k b o hc e⟩) (fun _ _ e => e) (fun _ _ _ e => e) (fun b ps e => ⟨#[], by rw [e]; simp⟩) (fun m hm => ?_) (fun b u e => ?_) I.bare
  · obtain ⟨o, es, ep, ho, r⟩ := hm
    exact ⟨o, es, ep, k _ o (fun z => (hf _ z).2.1 rfl) ho, r⟩
  · refine (I.hok b u e).stay (fun c v hc q => k c v ?_ q) (fun _ q => q) fun _ _ q => q
    rcases hc with z | z
    · rw [z]; exact nit b u e
    · exact nit c _ z
theorem Inv.turnedNew {t' : Nat} {ch : List Addr} {T : Addr} {ob : HO} (I : Inv X pins σ H s) (k : ∀ b o, b ∉ ch → s.heap.get? b = some o → h'.get? b = some o) (hf : ∀ b ∈ ch, FpOk X pins H b) (hT : s.heap.objs.size ≤ T)
    (new : ObjOk X.prog X.w (upd H T ob) h' T ob) : Inv X pins σ (upd H T ob) { s with heap := h', toks := t' } := by
  have hn : H T = none := I.hok.fresh hT
  have nit : ∀ b u, H b = some u → b ∉ ch := fun b u e z => by
    have q := (hf b z).1
    rw [q] at e; cases e
  refine I.step (g' := s.gens) (d' := s.drawn) (ch := ch) (fun b hb => ⟨(hf b hb).2.2.2.1, (hf b hb).2.1, (hf b hb).2.2.2.2.1, (hf b hb).2.2.2.2.2⟩) (fun b o _ _ hc e _ => k b o hc e) (fun b o _ _ hc e _ => ⟨o.slots, k b o hc e⟩)
    (fun b o _ e n => ?_) (fun b o hc e => ⟨o, k b o hc e⟩) (fun b xs e => ?_) (fun b o u e => ?_) (fun b ps e => ⟨#[], ?_⟩) (fun m hm => ?_) (fun b u e => ?_) I.bare
  · rw [upd_ne (Nat.ne_of_lt (Nat.lt_of_lt_of_le (Heap.lt_size e) hT))]; exact n
  · rw [upd_ne (ne_of_none e hn)]; exact e
  · rw [upd_ne (ne_of_none e hn)]; exact e
  · rw [upd_ne (ne_of_none e hn), e]; simp
  · obtain ⟨o, es, ep, ho, r⟩ := hm
    exact ⟨o, es, ep, k _ o (fun z => (hf _ z).2.1 rfl) ho, r⟩
  · by_cases hb : b = T
    · subst hb
      rw [upd_same] at e
      cases e
      exact new
    · rw [upd_ne hb] at e
      refine (I.hok b u e).stay (fun c v hc q => k c v ?_ q) (fun c q => by rw [upd_ne (ne_of_none q hn)]; exact q) fun c xs q => by rw [upd_ne (ne_of_none q hn)]; exact q
      rcases hc with z | z
      · rw [z]; exact nit b u e
      · exact nit c _ z
end
section
variable {X : Cx}
end
section
variable {X : Cx} {tg : Expr}
end
section
variable {X : Cx} {tg : Expr}
end
section
variable {prog : Program} {w : World} {A : Around} {E : Value → Shared → Prop} {s : Shared}
end
section
variable {X : Cx} {pins : List (Addr × Obj)} {σ : St} {H : Hp} {s : Shared} {d : Addr} {o : Obj}
end
section
variable {P : Program} {w : World} {K : PySem.W.Frag} {tg : Expr} {d : Addr} {o : Obj} {es : Array DictEntry} {ep : Nat}
end
section
variable {X : Cx} {tg e : Expr} {td : TE} {apos cpos : Pos}
end
theorem boot_zip5 : bootBuiltins "zip" = some (.type "zip") := by decide +kernel
def Itz (K : PySem.W.Frag) (a b : Addr) : It :=
  ⟨fun i H => ∃ (xs ys : List V) (x y : V), SqL K H a xs ∧ SqL K H b ys ∧ xs[i]? = some x ∧ ys[i]? = some y,
    fun i H v H' => ∃ T x y, v = .ref T ∧ H T = none ∧ H' = upd H T (.tup [x, y]) ∧ (∀ xs, SqL K H a xs → xs[i]? = some x) ∧ ∀ ys, SqL K H b ys → ys[i]? = some y,
    fun i H => ∃ xs ys : List V, SqL K H a xs ∧ SqL K H b ys ∧ (xs.length ≤ i ∨ ys.length ≤ i)⟩
theorem turn_zip {P : Program} {w : World} {K : PySem.W.Frag} {elts : List Expr} {kk : Nat} {tpos : Pos} {a b z TI TO i1 i2 : Addr} (D : ZipApart z TI TO i1 i2 a b) :
    Turn P w K (.Tuple elts kk tpos) (Itz K a b) [z, TI, TO, i1, i2] z (fun i h => IsZip h z TI TO .none ∧ IsPair h TI (.ref i1) (.ref i2) ∧ (∃ x y, IsPair h TO x y) ∧ h.IsListIter i1 a i ∧ h.IsListIter i2 b i) where
  mem := by simp
  obj := fun i h st c hc => by
    obtain ⟨hz, hTI, ⟨x, y, hTO⟩, ⟨o1, e1, _, d1⟩, ⟨o2, e2, _, d2⟩⟩ := st
    have e' : c = z ∨ c = TI ∨ c = TO ∨ c = i1 ∨ c = i2 := by simpa using hc
    rcases e' with q | q | q | q | q
    · rw [q]; exact ⟨_, hz, fun v q => nomatch q⟩
    · rw [q]; exact ⟨_, hTI, fun v q => nomatch q⟩
    · rw [q]; exact ⟨_, hTO, fun v q => nomatch q⟩
    · rw [q]; exact ⟨o1, e1, fun v q => by rw [d1] at q; cases q⟩
    · rw [q]; exact ⟨o2, e2, fun v q => by rw [d2] at q; cases q⟩
  keep := fun i h h' st k => by
    obtain ⟨hz, hTI, ⟨x, y, hTO⟩, h1, h2⟩ := st
    exact ⟨k z (by simp) _ hz, k TI (by simp) _ hTI, ⟨x, y, k TO (by simp) _ hTO⟩, h1.at fun o q => k i1 (by simp) o q, h2.at fun o q => k i2 (by simp) o q⟩
  item := by
    intro X hP hw hK hc i pins s σ H E I hf st hg
    subst hP hw hK
    obtain ⟨hz, hTI, ⟨x0, y0, hTO⟩, h1, h2⟩ := st
    obtain ⟨xs, ys, x, y, hqx, hqy, hx, hy⟩ := hg
    obtain ⟨its, rv, p, _⟩ := I.list hqx
    obtain ⟨its2, rv2, p2, _⟩ := I.list hqy
    obtain ⟨u, hu, ru⟩ := rv.get hx
    obtain ⟨u2, hu2, ru2⟩ := rv2.get hy
    have hzl : z < s.heap.objs.size := Heap.lt_size hz
    refine wpAny_pyNext_zip_item D hz hTI hTO h1 h2 p.isList p2.isList (x := u) (y := u2) (by simpa using hu) (by simpa using hu2) fun h' z' TO' h1' h2' hT hsz hk => ?_
    refine ⟨_, rfl, wpAny_letOwnedTupleGo_zip (s := { s with heap := h' }) z' fun h'' z'' sb => ?_⟩
    have hT2 : h''.get? s.heap.objs.size = some { cls := .type "tuple", data := .seq #[u, u2] } := (sb.2 _ (Nat.ne_of_gt hzl)).trans hT
    have new : ObjOk X.prog X.w (upd H s.heap.objs.size (.tup [x, y])) h'' s.heap.objs.size (.tup [x, y]) :=
      ⟨by show 2 ≤ sizeLine; decide, [u, u2], .cons ru (.cons ru2 .nil), ⟨_, hT2, rfl, _, rfl⟩⟩
    have I1 : Inv X pins σ (upd H s.heap.objs.size (.tup [x, y])) { s with heap := h'' } :=
      I.turnedNew (t' := s.toks) (ch := [z, TI, TO, i1, i2]) (fun c o hb q => (sb.2 c (fun q' => hb (by simp [q']))).trans (hk c o (fun q' => hb (by simp [q'])) (fun q' => hb (by simp [q'])) (fun q' => hb (by simp [q'])) (fun q' => hb (by simp [q'])) q)) hf (Nat.le_refl _) new
    refine ⟨.ref s.heap.objs.size, _, I1, rfl, ⟨_, x, y, rfl, I.hok.fresh (Nat.le_refl _), rfl, fun l hl => by rw [I.list_inj hl hqx]; exact hx, fun l hl => by rw [I.list_inj hl hqy]; exact hy⟩, ⟨z'', ?_, ⟨u, u2, ?_⟩, ?_, ?_⟩, fun c hcm => ?_⟩
    · exact (sb.2 _ D.TIz).trans (hk _ _ D.TIz D.TITO D.TIi1 D.TIi2 hTI)
    · exact (sb.2 _ D.TOz).trans TO'
    · exact h1'.at fun o q => (sb.2 _ D.i1z).trans q
    · exact h2'.at fun o q => (sb.2 _ D.i2z).trans q
    · have hlt : c < s.heap.objs.size := by
        have e' : c = z ∨ c = TI ∨ c = TO ∨ c = i1 ∨ c = i2 := by simpa using hcm
        rcases e' with q | q | q | q | q
        · rw [q]; exact hzl
        · rw [q]; exact Heap.lt_size hTI
        · rw [q]; exact Heap.lt_size hTO
        · rw [q]; obtain ⟨_, e1, _⟩ := h1; exact Heap.lt_size e1
        · rw [q]; obtain ⟨_, e2, _⟩ := h2; exact Heap.lt_size e2
      rw [upd_ne (Nat.ne_of_lt hlt)]
      exact (hf c hcm).1
  done := by
    intro X hP hw hK hc i pins s σ H E I hf st hg
    subst hP hw hK
    obtain ⟨hz, hTI, ⟨x0, y0, hTO⟩, h1, h2⟩ := st
    obtain ⟨xs, ys, hqx, hqy, hend⟩ := hg
    obtain ⟨its, rv, p, _⟩ := I.list hqx
    obtain ⟨its2, rv2, p2, _⟩ := I.list hqy
    have l1 := rv.length
    have l2 := rv2.length
    have he : its.toArray[i]? = none ∨ its2.toArray[i]? = none := by
      rcases hend with q | q
      · exact .inl (by simp; omega)
      · exact .inr (by simp; omega)
    exact wpAny_pyNext_zip_end (I.ok.hd hc) D hz hTI hTO h1 h2 p.isList p2.isList he fun h' hk => ⟨rfl, I.turnedL (t' := s.toks) (ch := [z, TI, TO, i1, i2]) (fun c o hb q =>
      hk c o (fun q' => hb (by simp [q'])) (fun q' => hb (by simp [q'])) (fun q' => hb (by simp [q'])) (fun q' => hb (by simp [q'])) q) hf⟩
  self := fun A i s Q E st h => wpAny_pyIter_zip st.1 h
def iZip (K : PySem.W.Frag) (ta : TA) : TI := fun σ H R => ta σ H fun vs H1 => ∃ a b xs ys, vs = [.ref a, .ref b] ∧ SqL K H1 a xs ∧ SqL K H1 b ys ∧ R (Itz K a b) H1
theorem pi_zip {X : Cx} {e e2 : Expr} {ta : TA} {p pos tpos : Pos} {elts : List Expr} {kk : Nat} (hg : Gl X "zip") (hm : X.mg "zip" = none) (ha : PA X [e, e2] ta)
    (hs : starEach [e, e2] X.env = (false, eval e X.env) :: starEach [e2] X.env := by rfl) (hpl : (backTo pos (starEach [e2] X.env)).any (·.1) = false := by rfl) :
    PI X (.Tuple elts kk tpos) (.Call (.Name "zip" p) [e, e2] [] pos) (iZip X.K ta) := by
  intro pins s σ H R I h
  refine Call_ (ld_blt I hg hm boot_zip5 (PyProof.Rows.callWith_type1 (thn (ha pos pins s σ H _ I h) fun us s1 ⟨vs, H1, I1, r1, q1⟩ => ?_) hs hpl))
  obtain ⟨a, b, xs, ys, ex, hqx, hqy, q⟩ := q1
  subst ex
  cases r1 with
  | cons r rr =>
    cases rr with
    | cons r' rr =>
      cases rr
      cases r
      cases r'
      obtain ⟨its, rv, p1, _⟩ := I1.list hqx
      obtain ⟨its2, rv2, p2, _⟩ := I1.list hqy
      have la : a < s1.heap.objs.size := p1.lt
      have lb : b < s1.heap.objs.size := p2.lt
      refine call_zip_2 p1.isList p2.isList fun h' hz hTI hTO h1 h2 hsz hk => wpAny_pyIter_zip hz ?_
      have I2 : Inv X pins σ H1 { s1 with heap := h' } := I1.kept (t' := s1.toks) hk
      refine ⟨s1.heap.objs.size + 4, [s1.heap.objs.size + 4, s1.heap.objs.size + 2, s1.heap.objs.size + 3, s1.heap.objs.size, s1.heap.objs.size + 1], _, _, H1, rfl, I2, turn_zip (PySem.W.ktu_apart s1.heap.objs.size a b la lb), ⟨hz, hTI, ⟨_, _, hTO⟩, h1, h2⟩, fun c hcm => ?_, q⟩
      have e' : c = s1.heap.objs.size + 4 ∨ c = s1.heap.objs.size + 2 ∨ c = s1.heap.objs.size + 3 ∨ c = s1.heap.objs.size ∨ c = s1.heap.objs.size + 1 := by simpa using hcm
      have hle : s1.heap.objs.size ≤ c := by
        rcases e' with z | z | z | z | z
        · rw [z]; exact Nat.le_add_right _ _
        · rw [z]; exact Nat.le_add_right _ _
        · rw [z]; exact Nat.le_add_right _ _
        · rw [z]; exact Nat.le_refl _
        · rw [z]; exact Nat.le_add_right _ _
      exact I1.fpOk hle (I1.hok.fresh hle)
end L2
section 
namespace Bits
open PySem PyProof.Rows
end Bits
end 
section 
namespace TL
open PySem PySem.Builtin PySem.Builtin.Str PySem.StrLaws
end TL
end 
namespace L2
open PySem PySem.Spec PyProof.Rows
section
variable {X : Cx} {pins : List (Addr × Obj)} {σ : St} {H : Hp} {s : Shared} {Q : VK}
end
section
variable {X : Cx}
end
section
variable {X : Cx} {o e : Expr} {to te : TE}
end
end L2
namespace L2
open PySem PySem.Spec PyProof.Rows
section
variable {X : Cx}
end
end L2
namespace Att
open PySem PySem.W PySem.Calls PyProof.Rows
section
variable {prog : Program} {w : World} {A : Around} {E : Value → Shared → Prop} {s : Shared} {K : Frag}
end
end Att
namespace L2
open PySem PySem.Spec PyProof.Rows
end L2
namespace L2
open PySem PySem.Spec PyProof.Rows
end L2
namespace L2
open PySem PySem.Spec PyProof.Rows
def inClass (s : Stmt) (j : Nat) : Stmt := match s with
  | .ClassDef _ _ _ body _ _ _ _ _ _ _ => body.getD j (.Pass ⟨0, 0, 0, 0⟩)
  | _ => .Pass ⟨0, 0, 0, 0⟩
def defArgs (s : Stmt) : Arguments := match s with
  | .FunctionDef _ a _ _ _ _ _ _ _ _ => a
  | _ => { posonlyargs := [], args := [], vararg := none, kwonlyargs := [], kw_defaults := [], kwarg := none, defaults := [] }
def defBody (s : Stmt) : List Stmt := match s with
  | .FunctionDef _ _ b _ _ _ _ _ _ _ => b
  | _ => []
def defScope (s : Stmt) : Scope := match s with
  | .FunctionDef _ _ _ _ _ _ sc _ _ _ => sc
  | _ => { kind := .function, names := [], isGenerator := false, isCoroutine := false }
abbrev CX0 : CXT := fun _ _ _ _ _ _ => False
abbrev E0 : XK := fun _ _ _ => False
theorem pass0 {X : Cx} : Passes CX0 X E0 := fun _ _ _ _ _ _ _ h => h.elim
structure Fun (K : PySem.W.Frag) (x qual : Str) (st : Stmt) (f : Addr) (fd : FuncData) : Prop where
  ex : ∃ (oc : Value) (od : Option Addr) (kV doc pm : Value) (an : Option Addr) (cdv ct : Value) (osl : Array (Option Value)),
    fd = PySem.W.fnOf x qual (defArgs st) (defBody st) (defScope st) .none kV doc pm an cdv ct ∧ K.lookup f = some ⟨oc, od, .func fd, osl⟩ ∧ PySem.W.codeIn K cdv qual = true
  kp : PySem.W.keepIn K (.ref f) = true
section
variable {P : Program} {w : World} {K : PySem.W.Frag} {mg : Str → Option Value} {base : Heap}
theorem Fun.ok {x qual : Str} {st : Stmt} {f : Addr} {fd : FuncData} {N ps : List Str} {k : Nat} {sp : Sp} (F : Fun K x qual st f fd) (S : FnScope N ps (defScope st)) (len : ∀ vs H Q E, sp vs H Q E → vs.length = ps.length)
    (hbody : ∀ (cdv : Value) (A : Around) (outer : List Env) (s : Shared) (H : Hp) (vs : List V) (Q : VK) (E : XK), Room k (A.deeper (envOfC qual (defScope st) s.heap.objs.size f cdv)) → sp vs H Q E →
      ∃ t, PSs (cxOf CX0 P w K mg base N qual (defScope st) f cdv A outer s H E).nox (defBody st) t ∧ t { nx := fun _ H' => Q .non H', rt := Q } (start N vs) H) : FnOk P w K mg base CX0 (k + 1) f fd ps sp := by
  obtain ⟨oc, od, kV, doc, pm, an, cdv, ct, osl, rfl, lk, hcd⟩ := F.ex
  refine fn_of lk hcd S len fun A outer s H vs Q E hr hsp => ?_
  obtain ⟨t, h, q⟩ := hbody cdv A outer s H vs Q E hr hsp
  exact ⟨t, h.nox, q⟩
theorem Fun.binds {x qual : Str} {st : Stmt} {f : Addr} {fd : FuncData} {ps : List Str} (F : Fun K x qual st f fd)
    (h : ∀ (kV doc pm : Value) (an : Option Addr) (cdv ct : Value) (us : List Value), us.length = ps.length → bindArgs (PySem.W.fnOf x qual (defArgs st) (defBody st) (defScope st) .none kV doc pm an cdv ct) ⟨us, []⟩ = pure (ps.zip us)) : Binds K fd ps [] := by
  obtain ⟨oc, od, kV, doc, pm, an, cdv, ct, osl, rfl, lk, hcd⟩ := F.ex
  exact .all (h kV doc pm an cdv ct)
theorem fun_mk {x qual : Str} {st : Stmt} {f : Addr} {oc : Value} {od an : Option Addr} {osl : Array (Option Value)} {kV doc pm cdv ct : Value} (l : K.lookup f = some ⟨oc, od, .func (PySem.W.fnOf x qual (defArgs st) (defBody st) (defScope st) .none kV doc pm an cdv ct), osl⟩)
    (c : PySem.W.codeIn K cdv qual = true) (k : PySem.W.keepIn K (.ref f) = true) : Fun K x qual st f (PySem.W.fnOf x qual (defArgs st) (defBody st) (defScope st) .none kV doc pm an cdv ct) := ⟨⟨oc, od, kV, doc, pm, an, cdv, ct, osl, rfl, l, c⟩, k⟩
end
theorem hu_of {A : Around} {k : Nat} (hr : Room k A) : A.units + 1 < cLine := Nat.lt_of_le_of_lt (Nat.add_le_add_left (by decide : 1 ≤ 64) _) hr.units
section
variable {X : Cx}
theorem pv (i : Nat) {x : Str} {pos : Pos} (hN : X.N[i]? = some x := by rfl) (hv : Vis X.env.scope x := by first | exact Or.inl rfl | exact Or.inr (Or.inl rfl) | exact Or.inr (Or.inr rfl)) (hd : (x == ("__debug__" : Str)) = false := by decide)
    (hcd : (x == ("__classdict__" : Str)) = false := by decide) : PE X (.Name x pos) (tVar i) := pe_var hN hv hd hcd
end
theorem iteF {A B : Prop} (h : B) : if false = true then A else B := by
  rw [if_neg Bool.false_ne_true]
  exact h
theorem iteT {A B : Prop} (h : A) : if true = true then A else B := by
  rw [if_pos rfl]
  exact h
theorem ite2 {c A B : Prop} [Decidable c] (h1 : c → A) (h2 : ¬ c → B) : if c then A else B := by
  by_cases h : c
  · rw [if_pos h]
    exact h1 h
  · rw [if_neg h]
    exact h2 h
def Same (H H' : Hp) : Prop := ∀ b o, H b = some o → H' b = some o
theorem Same.refl (H : Hp) : Same H H := fun _ _ h => h
theorem Same.trans {H H1 H2 : Hp} (a : Same H H1) (b : Same H1 H2) : Same H H2 := fun c o h => b c o (a c o h)
theorem Same.free {H H' : Hp} (e : Same H H') {l : Addr} (h : H' l = Option.none) : H l = Option.none := by
  cases q : H l with
  | none => rfl
  | some o =>
    rw [e l o q] at h
    cases h
theorem Same.seq {K : PySem.W.Frag} {H H' : Hp} {a : Addr} {xs : List V} (e : Same H H') (h : SqL K H a xs) : SqL K H' a xs := by
  rcases h with (h | ⟨o, h⟩) | h
  · exact .inl (.inl (e _ _ h))
  · exact .inl (.inr ⟨o, e _ _ h⟩)
  · exact .inr h
section
variable {κ : Type} [DecidableEq κ]
theorem valV_not {kvs : List (κ × V)} {k : κ} (h : valV kvs k = none) : ¬ k ∈ kvs.map (·.1) := by
  intro m
  obtain ⟨p, hp, e⟩ := List.mem_map.mp m
  have q : (kvs.any fun kv => decide (kv.1 = k)) = true := List.any_eq_true.mpr ⟨p, hp, decide_eq_true e⟩
  rw [valV_any, h] at q
  exact absurd q (by simp)
theorem valV_in {kvs : List (κ × V)} {k : κ} {v : V} (h : valV kvs k = some v) : k ∈ kvs.map (·.1) := by
  have q : (kvs.any fun kv => decide (kv.1 = k)) = true := by
    rw [valV_any, h]
    all_goals rfl
  obtain ⟨p, hp, e⟩ := List.any_eq_true.mp q
  exact List.mem_map.mpr ⟨p, hp, of_decide_eq_true e⟩
theorem nd_snoc : ∀ {l : List κ} {k : κ}, l.Nodup → ¬ k ∈ l → (l ++ [k]).Nodup
  | [], k, _, _ => by simp
  | a :: r, k, h, hk => by
    obtain ⟨h1, h2⟩ := List.nodup_cons.mp h
    show (a :: (r ++ [k])).Nodup
    refine List.nodup_cons.mpr ⟨fun m => ?_, nd_snoc h2 fun m => hk (List.mem_cons.mpr (Or.inr m))⟩
    rcases List.mem_append.mp m with q | q
    · exact h1 q
    · exact hk (List.mem_cons.mpr (Or.inl (List.mem_singleton.mp q).symm))
theorem nd_putK {kvs : List (κ × V)} {k : κ} (v : V) (hn : (kvs.map (·.1)).Nodup) (h : valV kvs k = none) : ((putK kvs k v).map (·.1)).Nodup := by
  rw [putK_new v h, List.map_append]
  exact nd_snoc hn (valV_not h)
theorem dropK_pos {p : κ × V} {r : List (κ × V)} {k : κ} (e : p.1 = k) : dropK (p :: r) k = dropK r k := by
  unfold dropK
  rw [List.filter_cons, if_neg (by simp [e])]
theorem dropK_neg {p : κ × V} {r : List (κ × V)} {k : κ} (e : ¬ p.1 = k) : dropK (p :: r) k = p :: dropK r k := by
  unfold dropK
  rw [List.filter_cons, if_pos (by simp [e])]
theorem dropK_mem {kvs : List (κ × V)} {k : κ} {p : κ × V} (h : p ∈ dropK kvs k) : p ∈ kvs := (List.mem_filter.mp h).1
theorem nd_dropK : ∀ {kvs : List (κ × V)} {k : κ}, (kvs.map (·.1)).Nodup → ((dropK kvs k).map (·.1)).Nodup
  | [], _, _ => List.nodup_nil
  | p :: r, k, h => by
    have h : (p.1 :: r.map (·.1)).Nodup := h
    obtain ⟨h1, h2⟩ := List.nodup_cons.mp h
    by_cases e : p.1 = k
    · rw [dropK_pos e]
      exact nd_dropK h2
    · rw [dropK_neg e]
      show (p.1 :: (dropK r k).map (·.1)).Nodup
      refine List.nodup_cons.mpr ⟨fun m => h1 ?_, nd_dropK h2⟩
      obtain ⟨q, hq, eq⟩ := List.mem_map.mp m
      exact List.mem_map.mpr ⟨q, dropK_mem hq, eq⟩
end
theorem at_of {xs : List V} {z : Int} {j : Nat} {v : V} (e : z = (j : Int)) (h : xs[j]? = some v) : atI xs z = some v := by
  rw [e]
  exact atI_nat h
theorem nd_ix {α : Type} {l : List α} (hN : l.Nodup) {i j : Nat} {x : α} (a : l[i]? = some x) (b : l[j]? = some x) : i = j := by
  obtain ⟨h1, e1⟩ := List.getElem?_eq_some_iff.mp a
  obtain ⟨h2, e2⟩ := List.getElem?_eq_some_iff.mp b
  exact (List.getElem_inj hN).mp (e1.trans e2.symm)
theorem Same.made {H H1 : Hp} {x dx C : Addr} (nx : H x = Option.none) (nd : H dx = Option.none) (k : ∀ b o, (upd (upd H dx (.own x)) x (.ins C dx [])) b = some o → b ≠ x → H1 b = some o) : Same H H1 := fun b o e =>
  k b o (by rw [upd_ne (ne_of_none e nx), upd_ne (ne_of_none e nd)]; exact e) (ne_of_none e nx)
end L2
end
section
section
set_option Elab.async false
set_option linter.all false
set_option maxRecDepth 100000
set_option maxHeartbeats 2000000
namespace L2
open PySem PySem.Spec PyProof.Rows
open PySem.W (WData Codec OpenSpec Well WellAll ReadsW ReadsAllW)
/-! ### an answer as data -/
mutual
/-- x stands for the datum d, lists and tuples all the way -/
inductive Dw (K : PySem.W.Frag) (H : Hp) : V → WData → Prop
  | non : Dw K H .non .none
  | bl (b : Bool) : Dw K H (.bl b) (.bool b)
  | int (i : Int) : Dw K H (.int i) (.int i)
  | str (x : Str) : Dw K H (.str x) (.str x)
  | byt (b : Array UInt8) : Dw K H (.byt b) (.bytes b.toList)
  | lst {a : Addr} {xs : List V} {ds : List WData} : SqL K H a xs → DwAll K H xs ds → Dw K H (.ref a) (.list ds)
  | tup {a : Addr} {xs : List V} {ds : List WData} : SqT K H a xs → DwAll K H xs ds → Dw K H (.ref a) (.tuple ds)
inductive DwAll (K : PySem.W.Frag) (H : Hp) : List V → List WData → Prop
  | nil : DwAll K H [] []
  | cons {v : V} {vs : List V} {d : WData} {ds : List WData} : Dw K H v d → DwAll K H vs ds → DwAll K H (v :: vs) (d :: ds)
end
theorem dw_ints {K : PySem.W.Frag} {H : Hp} : ∀ ns : List Int, DwAll K H (ns.map V.int) (ns.map WData.int)
  | [] => .nil
  | n :: r => .cons (.int n) (dw_ints r)
theorem ints_dw {K : PySem.W.Frag} {H : Hp} : ∀ (ns : List Int) (xs : List V), DwAll K H xs (ns.map WData.int) → xs = ns.map V.int
  | [], xs, h => by
    cases h
    rfl
  | n :: r, xs, h => by
    cases h with
    | cons h1 h2 =>
      cases h1
      rw [ints_dw r _ h2] <;> rfl
section
variable {P : Program} {w : World} {K : PySem.W.Frag} {H : Hp} {h : Heap} {R : PySem.W.WRecords} {cl : Str → Option Addr}
theorem sqL_at {a : Addr} {xs : List V} (hok : HOk P w H h) (KX : K.In h) (q : SqL K H a xs) : ∃ (its : List Value) (o : Obj) (n : Nat), Vals xs its ∧ h.get? a = some o ∧ o.cls = .type "list" ∧ o.data = .seq its.toArray n := by
  rcases q with q | ⟨o, its, n, e, hc, _, hd, _, hv⟩
  · obtain ⟨_, its, n, hv, e⟩ := (show ObjOk P w H h a (.lst xs) from q.ok hok)
    exact ⟨its, _, n, hv, e, rfl, rfl⟩
  · exact ⟨its.toList, o, n, hv, KX _ _ e, hc, by simp [hd]⟩
theorem sqT_at {a : Addr} {xs : List V} (hok : HOk P w H h) (KX : K.In h) (q : SqT K H a xs) : ∃ (its : List Value) (o : Obj) (n : Nat), Vals xs its ∧ h.get? a = some o ∧ o.cls = .type "tuple" ∧ o.data = .seq its.toArray n := by
  rcases q with q | ⟨o, its, n, e, hc, hd, _, hv⟩
  · obtain ⟨_, its, hv, o, e, hc, n, hd⟩ := (show ObjOk P w H h a (.tup xs) from q.ok hok)
    exact ⟨its, o, n, hv, e, hc, hd⟩
  · exact ⟨its.toList, o, n, hv, KX _ _ e, hc, by simp [hd]⟩
mutual
theorem Dw.reads (hok : HOk P w H h) (KX : K.In h) : ∀ (d : WData) (v : V) (u : Value), Dw K H v d → RelV v u → ∃ as, ReadsW R cl h u d as
  | .none, _, _, x, r => by
    cases x
    cases r
    exact ⟨_, ReadsW.none⟩
  | .bool b, _, _, x, r => by
    cases x
    cases r
    exact ⟨_, ReadsW.bool b⟩
  | .int i, _, _, x, r => by
    cases x
    obtain ⟨t, rfl⟩ := r
    exact ⟨_, ReadsW.int i t⟩
  | .str s, _, _, x, r => by
    cases x
    obtain ⟨t, rfl⟩ := r
    exact ⟨_, ReadsW.str s t⟩
  | .bytes b, _, _, x, r => by
    cases x
    obtain ⟨t, rfl⟩ := r
    exact ⟨_, ReadsW.bytes _ t⟩
  | .list ds, _, _, x, r => by
    cases x with
    | lst hs ha =>
      cases r
      obtain ⟨its, o, n, rv, ho, hc, hd⟩ := sqL_at hok KX hs
      obtain ⟨as, hr⟩ := Dw.readsAll hok KX ds _ its ha rv
      exact ⟨_, ReadsW.list ho hc hd hr⟩
  | .tuple ds, _, _, x, r => by
    cases x with
    | tup hs ha =>
      cases r
      obtain ⟨its, o, n, rv, ho, hc, hd⟩ := sqT_at hok KX hs
      obtain ⟨as, hr⟩ := Dw.readsAll hok KX ds _ its ha rv
      exact ⟨_, ReadsW.tuple ho hc hd hr⟩
  | .float _, _, _, x, _ => by cases x
  | .dict _, _, _, x, _ => by cases x
  | .bytearray _, _, _, x, _ => by cases x
  | .set _, _, _, x, _ => by cases x
  | .frozenset _, _, _, x, _ => by cases x
  | .obj _ _, _, _, x, _ => by cases x
theorem Dw.readsAll (hok : HOk P w H h) (KX : K.In h) : ∀ (ds : List WData) (vs : List V) (us : List Value), DwAll K H vs ds → Vals vs us → ∃ as, ReadsAllW R cl h us ds as
  | [], _, _, x, r => by
    cases x
    cases r
    exact ⟨_, ReadsAllW.nil⟩
  | d :: ds, _, _, x, r => by
    cases x with
    | cons h1 h2 =>
      cases r with
      | cons r1 r2 =>
        obtain ⟨as, q1⟩ := Dw.reads hok KX d _ _ h1 r1
        obtain ⟨bs, q2⟩ := Dw.readsAll hok KX ds _ _ h2 r2
        exact ⟨_, ReadsAllW.cons q1 q2⟩
end
end
/-! ### the arguments -/
mutual
/-- data that a codec tells -/
def plW : WData → Bool
  | .none => true
  | .bool _ => true
  | .int _ => true
  | .str _ => true
  | .bytes _ => true
  | .list xs => plWs xs
  | .tuple xs => plWs xs
  | _ => false
def plWs : List WData → Bool
  | [] => true
  | x :: r => plW x && plWs r
end
theorem plWs_map {α : Type} {f : α → WData} (h : ∀ a, plW (f a) = true) : ∀ l : List α, plWs (l.map f) = true
  | [] => rfl
  | x :: r => by
    show (plW (f x) && plWs (r.map f)) = true
    rw [h x, plWs_map h r] <;> rfl
theorem pl_enc : ∀ (c : Codec) (a : c.denote), plW (c.enc a) = true
  | .unit, _ => rfl
  | .bool, _ => rfl
  | .int _ _, _ => rfl
  | .nat _ _, _ => rfl
  | .u8, _ => rfl
  | .bytes _ _, _ => rfl
  | .text _ _ _ _, _ => rfl
  | .list _ _ c, a => plWs_map (fun x => pl_enc c x) a
  | .pair c d, a => by
    show (plW (c.enc a.1) && (plW (d.enc a.2) && true)) = true
    rw [pl_enc c a.1, pl_enc d a.2] <;> rfl
  | .triple c d e, a => by
    show (plW (c.enc a.1) && (plW (d.enc a.2.1) && (plW (e.enc a.2.2) && true))) = true
    rw [pl_enc c a.1, pl_enc d a.2.1, pl_enc e a.2.2] <;> rfl
  | .option c, none => rfl
  | .option c, some x => pl_enc c x
theorem pl_encAll : ∀ (cs : List Codec) (a : Codec.denoteAll cs), plWs (Codec.encAll cs a) = true
  | [], _ => rfl
  | c :: cs, a => by
    show (plW (c.enc a.1) && plWs (Codec.encAll cs a.2)) = true
    rw [pl_enc c a.1, pl_encAll cs a.2] <;> rfl
theorem weight_mem : ∀ {xs : List WData} {d : WData}, d ∈ xs → d.weight ≤ WData.weightAll xs
  | [], d, h => absurd h (by simp)
  | x :: r, d, h => by
    show d.weight ≤ x.weight + 1 + WData.weightAll r
    rcases List.mem_cons.mp h with e | m
    · rw [e]
      omega
    · have z := weight_mem m
      omega
def toV : Value → V
  | .none => .non
  | .bool b => .bl b
  | .int i _ => .int i
  | .str x _ => .str x
  | .bytes b _ => .byt b
  | .ref a => .ref a
  | _ => .non
/-- a value of the arguments, its objects among A -/
def OkU (A : List Addr) : Value → Prop
  | .none => True
  | .bool _ => True
  | .int _ _ => True
  | .str _ _ => True
  | .bytes _ _ => True
  | .ref a => a ∈ A
  | _ => False
theorem OkU.mono {A B : List Addr} (h : ∀ a ∈ A, a ∈ B) : ∀ {u : Value}, OkU A u → OkU B u := fun {u} x => by
  cases u with
  | ref a => exact h a x
  | none => trivial
  | bool b => trivial
  | int i t => trivial
  | str s t => trivial
  | bytes b t => trivial
  | _ => exact False.elim x
theorem relV_toV {A : List Addr} {u : Value} (x : OkU A u) : RelV (toV u) u := by
  cases u with
  | ref a => rfl
  | none => rfl
  | bool b => rfl
  | int i t => exact ⟨t, rfl⟩
  | str s t => exact ⟨t, rfl⟩
  | bytes b t => exact ⟨t, rfl⟩
  | _ => exact False.elim x
theorem vals_toV {A : List Addr} : ∀ {vs : List Value}, (∀ u ∈ vs, OkU A u) → Vals (vs.map toV) vs
  | [], _ => .nil
  | u :: r, h => .cons (relV_toV (h u (List.mem_cons_self ..))) (vals_toV fun x hx => h x (List.mem_cons_of_mem _ hx))
/-- an object of the arguments -/
def ArgOb (h : Heap) (A : List Addr) (a : Addr) : Prop := ∃ vs : List Value, vs.length ≤ sizeLine ∧ (∀ u ∈ vs, OkU A u) ∧
  (h.get? a = some { cls := .type "list", data := .seq vs.toArray } ∨ h.get? a = some { cls := .type "tuple", data := .seq vs.toArray })
theorem ArgOb.mono {h : Heap} {A B : List Addr} {a : Addr} (k : ∀ a ∈ A, a ∈ B) (x : ArgOb h A a) : ArgOb h B a := by
  obtain ⟨vs, h1, h2, h3⟩ := x
  exact ⟨vs, h1, fun u hu => (h2 u hu).mono k, h3⟩
theorem wellAll_len {P : Params} {h : Heap} : ∀ {vs : List Value} {ds : List WData}, WellAll P h vs ds → vs.length = ds.length
  | _, _, .nil => rfl
  | _, _, .cons _ b => by
    show _ + 1 = _ + 1
    rw [wellAll_len b]
theorem well_list {P : Params} {h : Heap} {v : Value} {ds : List WData} (x : Well P h v (.list ds)) : ∃ (a : Addr) (vs : List Value), v = .ref a ∧ h.get? a = some { cls := .type "list", data := .seq vs.toArray } ∧ WellAll P h vs ds := by
  cases x with
  | list ho hall => exact ⟨_, _, rfl, ho, hall⟩
theorem well_tuple {P : Params} {h : Heap} {v : Value} {ds : List WData} (x : Well P h v (.tuple ds)) : ∃ (a : Addr) (vs : List Value), v = .ref a ∧ h.get? a = some { cls := .type "tuple", data := .seq vs.toArray } ∧ WellAll P h vs ds := by
  cases x with
  | tuple ho hall => exact ⟨_, _, rfl, ho, hall⟩
theorem well_cons {P : Params} {h : Heap} {us : List Value} {d : WData} {ds : List WData} (x : WellAll P h us (d :: ds)) : ∃ (v : Value) (vs : List Value), us = v :: vs ∧ Well P h v d ∧ WellAll P h vs ds := by
  cases x with
  | cons a b => exact ⟨_, _, rfl, a, b⟩
theorem line_of {n : Nat} (h : n ≤ 1048576) : n ≤ sizeLine := Nat.le_trans h (by decide)
section
variable {P : Params} {h : Heap}
mutual
theorem area_one : ∀ (d : WData) (v : Value), Well P h v d → plW d = true → d.weight ≤ 1048576 → ∃ A : List Addr, OkU A v ∧ ∀ a ∈ A, ArgOb h A a
  | .none, _, x, _, _ => by
    cases x
    exact ⟨[], trivial, fun a m => absurd m (by simp)⟩
  | .bool b, _, x, _, _ => by
    cases x
    exact ⟨[], trivial, fun a m => absurd m (by simp)⟩
  | .int i, _, x, _, _ => by
    cases x
    exact ⟨[], trivial, fun a m => absurd m (by simp)⟩
  | .str s, _, x, _, _ => by
    cases x
    exact ⟨[], trivial, fun a m => absurd m (by simp)⟩
  | .bytes b, _, x, _, _ => by
    cases x
    exact ⟨[], trivial, fun a m => absurd m (by simp)⟩
  | .list ds, _, x, p, z => by
    obtain ⟨a, vs, rfl, ho, hall⟩ := well_list x
    have z2 : WData.weightAll ds ≤ 1048576 := z
    obtain ⟨A, h1, h2⟩ := area_all ds _ hall p fun d hd => Nat.le_trans (weight_mem hd) z2
    have k : ∀ b ∈ A, b ∈ a :: A := fun b hb => List.mem_cons_of_mem _ hb
    refine ⟨a :: A, List.mem_cons_self .., fun b hb => ?_⟩
    rcases List.mem_cons.mp hb with e | m
    · rw [e]
      exact ⟨vs, line_of (by rw [wellAll_len hall]; exact Nat.le_trans (PySem.W.length_le_weightAllW ds) z2), fun u hu => (h1 u hu).mono k, .inl ho⟩
    · exact (h2 b m).mono k
  | .tuple ds, _, x, p, z => by
    obtain ⟨a, vs, rfl, ho, hall⟩ := well_tuple x
    have z2 : WData.weightAll ds ≤ 1048576 := z
    obtain ⟨A, h1, h2⟩ := area_all ds _ hall p fun d hd => Nat.le_trans (weight_mem hd) z2
    have k : ∀ b ∈ A, b ∈ a :: A := fun b hb => List.mem_cons_of_mem _ hb
    refine ⟨a :: A, List.mem_cons_self .., fun b hb => ?_⟩
    rcases List.mem_cons.mp hb with e | m
    · rw [e]
      exact ⟨vs, line_of (by rw [wellAll_len hall]; exact Nat.le_trans (PySem.W.length_le_weightAllW ds) z2), fun u hu => (h1 u hu).mono k, .inr ho⟩
    · exact (h2 b m).mono k
  | .float _, _, _, p, _ => Bool.noConfusion (show false = true from p)
  | .dict _, _, _, p, _ => Bool.noConfusion (show false = true from p)
  | .bytearray _, _, _, p, _ => Bool.noConfusion (show false = true from p)
  | .set _, _, _, p, _ => Bool.noConfusion (show false = true from p)
  | .frozenset _, _, _, p, _ => Bool.noConfusion (show false = true from p)
  | .obj _ _, _, _, p, _ => Bool.noConfusion (show false = true from p)
theorem area_all : ∀ (ds : List WData) (vs : List Value), WellAll P h vs ds → plWs ds = true → (∀ d ∈ ds, d.weight ≤ 1048576) → ∃ A : List Addr, (∀ u ∈ vs, OkU A u) ∧ ∀ a ∈ A, ArgOb h A a
  | [], _, x, _, _ => by
    cases x
    exact ⟨[], fun u m => absurd m (by simp), fun a m => absurd m (by simp)⟩
  | d :: ds, _, x, p, z => by
    obtain ⟨v, vs, rfl, x1, x2⟩ := well_cons x
    have q : plW d = true ∧ plWs ds = true := Bool.and_eq_true_iff.mp p
    obtain ⟨A, a1, a2⟩ := area_one d v x1 q.1 (z d (List.mem_cons_self ..))
    obtain ⟨B, b1, b2⟩ := area_all ds vs x2 q.2 fun e he => z e (List.mem_cons_of_mem _ he)
    have kA : ∀ b ∈ A, b ∈ A ++ B := fun b hb => List.mem_append.mpr (.inl hb)
    have kB : ∀ b ∈ B, b ∈ A ++ B := fun b hb => List.mem_append.mpr (.inr hb)
    refine ⟨A ++ B, fun u hu => ?_, fun b hb => ?_⟩
    · rcases List.mem_cons.mp hu with e | m
      · rw [e]
        exact a1.mono kA
      · exact (b1 u m).mono kB
    · rcases List.mem_append.mp hb with m | m
      · exact (a2 b m).mono kA
      · exact (b2 b m).mono kB
end
end
/-- what is tracked of an argument's object -/
def hoOf (o : Obj) : Option HO := match o.data with
  | .seq vs _ => if (o.cls == Value.type "list") = true then some (.frz o (.lst (vs.toList.map toV))) else some (.frz o (.tup (vs.toList.map toV)))
  | _ => none
def argH (K : PySem.W.Frag) (h : Heap) (A : List Addr) : Hp := fun b => if b ∈ A then (if (K.lookup b).isNone = true then (h.get? b).bind hoOf else none) else none
/-- nothing is tracked but what is known to the object -/
def OnlyF (H : Hp) : Prop := ∀ b, H b = none ∨ ∃ o u, H b = some (.frz o u)
theorem hoOf_lst (vs : List Value) : hoOf { cls := .type "list", data := .seq vs.toArray } = some (.frz { cls := .type "list", data := .seq vs.toArray } (.lst (vs.map toV))) := by
  show (if (Value.type "list" == Value.type "list") = true then some (HO.frz { cls := .type "list", data := .seq vs.toArray } (.lst (vs.toArray.toList.map toV))) else some (HO.frz { cls := .type "list", data := .seq vs.toArray } (.tup (vs.toArray.toList.map toV)))) = _
  rw [if_pos (beq_self_eq_true _)]
theorem hoOf_tup (vs : List Value) : hoOf { cls := .type "tuple", data := .seq vs.toArray } = some (.frz { cls := .type "tuple", data := .seq vs.toArray } (.tup (vs.map toV))) := by
  show (if (Value.type "tuple" == Value.type "list") = true then some (HO.frz { cls := .type "tuple", data := .seq vs.toArray } (.lst (vs.toArray.toList.map toV))) else some (HO.frz { cls := .type "tuple", data := .seq vs.toArray } (.tup (vs.toArray.toList.map toV)))) = _
  rw [if_neg (by decide)]
section
variable {P : Program} {w : World} {K : PySem.W.Frag} {h : Heap} {A : List Addr}
theorem argH_at {b : Addr} {o : Obj} (hb : b ∈ A) (hk : K.lookup b = none) (e : h.get? b = some o) : argH K h A b = hoOf o := by
  unfold argH
  rw [if_pos hb, hk, if_pos (show (none : Option Obj).isNone = true from rfl), e] <;> rfl
theorem of_argH {b : Addr} {u : HO} (q : argH K h A b = some u) : b ∈ A ∧ K.lookup b = none := by
  unfold argH at q
  by_cases hb : b ∈ A
  · rw [if_pos hb] at q
    cases hk : K.lookup b with
    | none => exact ⟨hb, rfl⟩
    | some o =>
      rw [hk, if_neg (by simp)] at q
      cases q
  · rw [if_neg hb] at q
    cases q
/-- what stands tracked -/
theorem argH_is (ar : ∀ a ∈ A, ArgOb h A a) {b : Addr} {u : HO} (q : argH K h A b = some u) : K.lookup b = none ∧ ∃ vs : List Value, vs.length ≤ sizeLine ∧ (∀ u ∈ vs, OkU A u) ∧
    ((h.get? b = some { cls := .type "list", data := .seq vs.toArray } ∧ u = .frz { cls := .type "list", data := .seq vs.toArray } (.lst (vs.map toV))) ∨
     (h.get? b = some { cls := .type "tuple", data := .seq vs.toArray } ∧ u = .frz { cls := .type "tuple", data := .seq vs.toArray } (.tup (vs.map toV)))) := by
  obtain ⟨hb, hk⟩ := of_argH q
  obtain ⟨vs, h1, h2, h3⟩ := ar b hb
  refine ⟨hk, vs, h1, h2, ?_⟩
  rcases h3 with e | e
  · rw [argH_at hb hk e, hoOf_lst] at q
    exact .inl ⟨e, (Option.some.inj q).symm⟩
  · rw [argH_at hb hk e, hoOf_tup] at q
    exact .inr ⟨e, (Option.some.inj q).symm⟩
theorem argH_only (ar : ∀ a ∈ A, ArgOb h A a) : OnlyF (argH K h A) := fun b => by
  cases q : argH K h A b with
  | none => exact .inl rfl
  | some u =>
    obtain ⟨_, vs, _, _, ⟨_, e⟩ | ⟨_, e⟩⟩ := argH_is ar q
    · exact .inr ⟨_, _, by rw [e]⟩
    · exact .inr ⟨_, _, by rw [e]⟩
theorem argH_ok (ar : ∀ a ∈ A, ArgOb h A a) : HOk P w (argH K h A) h := fun b u q => by
  obtain ⟨_, vs, h1, h2, ⟨e, rfl⟩ | ⟨e, rfl⟩⟩ := argH_is ar q
  · exact ⟨e, by rw [List.length_map]; exact h1, vs, _, vals_toV h2, e⟩
  · exact ⟨e, by rw [List.length_map]; exact h1, vs, vals_toV h2, _, e, rfl, _, rfl⟩
theorem seq_inj {c c' : Value} {vs us : List Value} (e : (some { cls := c, data := .seq vs.toArray } : Option Obj) = some { cls := c', data := .seq us.toArray }) : c = c' ∧ vs = us := by
  have e1 := Option.some.inj e
  have e2 : c = c' := congrArg Obj.cls e1
  have e3 : Data.seq vs.toArray = Data.seq us.toArray := congrArg Obj.data e1
  injection e3 with e4
  refine ⟨e2, ?_⟩
  have e5 := congrArg Array.toList e4
  simpa using e5
/-- a list argument -/
theorem argL (KX : K.In h) (ar : ∀ a ∈ A, ArgOb h A a) {a : Addr} {vs : List Value} (ha : a ∈ A) (e : h.get? a = some { cls := .type "list", data := .seq vs.toArray }) : (∀ u ∈ vs, OkU A u) ∧ SqL K (argH K h A) a (vs.map toV) := by
  obtain ⟨us, h1, h2, h3⟩ := ar a ha
  have hu : us = vs := by
    rcases h3 with q | q
    · rw [e] at q
      exact (seq_inj q).2.symm
    · rw [e] at q
      exact absurd (Value.type.inj (seq_inj q).1) (by decide)
  subst hu
  refine ⟨h2, ?_⟩
  cases hk : K.lookup a with
  | none => exact .inl (.inr ⟨_, by rw [argH_at ha hk e, hoOf_lst]⟩)
  | some o =>
    have e2 := KX a o hk
    rw [e] at e2
    obtain rfl := Option.some.inj e2
    exact .inr ⟨_, us.toArray, _, hk, rfl, rfl, rfl, by rw [List.size_toArray]; exact h1, by simpa using vals_toV h2⟩
theorem argT (KX : K.In h) (ar : ∀ a ∈ A, ArgOb h A a) {a : Addr} {vs : List Value} (ha : a ∈ A) (e : h.get? a = some { cls := .type "tuple", data := .seq vs.toArray }) : (∀ u ∈ vs, OkU A u) ∧ SqT K (argH K h A) a (vs.map toV) := by
  obtain ⟨us, h1, h2, h3⟩ := ar a ha
  have hu : us = vs := by
    rcases h3 with q | q
    · rw [e] at q
      exact absurd (Value.type.inj (seq_inj q).1) (by decide)
    · rw [e] at q
      exact (seq_inj q).2.symm
  subst hu
  refine ⟨h2, ?_⟩
  cases hk : K.lookup a with
  | none => exact .inl (.inr ⟨_, by rw [argH_at ha hk e, hoOf_tup]⟩)
  | some o =>
    have e2 := KX a o hk
    rw [e] at e2
    obtain rfl := Option.some.inj e2
    exact .inr ⟨_, us.toArray, _, hk, rfl, rfl, by rw [List.size_toArray]; exact h1, by simpa using vals_toV h2⟩
mutual
theorem dw_one {Pm : Params} (KX : K.In h) (ar : ∀ a ∈ A, ArgOb h A a) : ∀ (d : WData) (v : Value), Well Pm h v d → plW d = true → OkU A v → Dw K (argH K h A) (toV v) d
  | .none, _, x, _, _ => by
    cases x
    exact .non
  | .bool b, _, x, _, _ => by
    cases x
    exact .bl b
  | .int i, _, x, _, _ => by
    cases x
    exact .int i
  | .str s, _, x, _, _ => by
    cases x
    exact .str s
  | .bytes b, _, x, _, _ => by
    cases x
    have z := Dw.byt (K := K) (H := argH K h A) b.toArray
    exact z
  | .list ds, _, x, p, hu => by
    obtain ⟨a, vs, rfl, ho, hall⟩ := well_list x
    obtain ⟨h2, hs⟩ := argL KX ar hu ho
    exact .lst hs (dw_all KX ar ds _ hall p h2)
  | .tuple ds, _, x, p, hu => by
    obtain ⟨a, vs, rfl, ho, hall⟩ := well_tuple x
    obtain ⟨h2, hs⟩ := argT KX ar hu ho
    exact .tup hs (dw_all KX ar ds _ hall p h2)
  | .float _, _, _, p, _ => Bool.noConfusion (show false = true from p)
  | .dict _, _, _, p, _ => Bool.noConfusion (show false = true from p)
  | .bytearray _, _, _, p, _ => Bool.noConfusion (show false = true from p)
  | .set _, _, _, p, _ => Bool.noConfusion (show false = true from p)
  | .frozenset _, _, _, p, _ => Bool.noConfusion (show false = true from p)
  | .obj _ _, _, _, p, _ => Bool.noConfusion (show false = true from p)
theorem dw_all {Pm : Params} (KX : K.In h) (ar : ∀ a ∈ A, ArgOb h A a) : ∀ (ds : List WData) (vs : List Value), WellAll Pm h vs ds → plWs ds = true → (∀ u ∈ vs, OkU A u) → DwAll K (argH K h A) (vs.map toV) ds
  | [], _, x, _, _ => by
    cases x
    exact .nil
  | d :: ds, _, x, p, hu => by
    obtain ⟨v, vs, rfl, x1, x2⟩ := well_cons x
    have q : plW d = true ∧ plWs ds = true := Bool.and_eq_true_iff.mp p
    exact .cons (dw_one KX ar d v x1 q.1 (hu _ (List.mem_cons_self ..))) (dw_all KX ar ds vs x2 q.2 fun u m => hu u (List.mem_cons_of_mem _ m))
end
end
/-! ### the call -/
theorem spec_call {P : Program} {w : World} {K : PySem.W.Frag} {mg mb : Str → Option Value} {CX : CXT} {k : Nat} {fa : Addr} {fd : FuncData} {ps : List Str} {sp : Sp} {s₁ : Shared} {vals : List Value} {ds : List WData} {R : PySem.W.WRecords} {cl : Str → Option Addr} {d0 : WData}
    (KX : K.In s₁.heap) (hns : s₁.heap.Ns mainGlobals mg) (hb : s₁.heap.Ns builtinsNs mb) (hbb : ∀ x : Str, x ≠ "__name__" → mb x = bootBuiltins x) (hlim : s₁.heap.NoLimit) (hg : s₁.gens = #[])
    (hwl : WellAll w.params s₁.heap vals ds) (hpl : plWs ds = true) (hwt : ∀ d ∈ ds, d.weight ≤ 1048576) (hr : Room k callerA)
    (F : ∀ base : Heap, K.In base → base.Ns mainGlobals mg → FnOk P w K mg base CX k fa fd ps sp) (hbind : ∀ (s : Shared) (us : List Value), us.length = ps.length → BindsTo s fd ⟨us, []⟩ (ps.zip us)) (hlen : ds.length = ps.length)
    (hsp : ∀ (H : Hp) (xs : List V), OnlyF H → DwAll K H xs ds → sp xs H (fun v H' => Dw K H' v d0) fun _ _ _ => False)
    (hCX : ∀ H e s', CX [] H s₁ (fun _ _ _ => False) e s' → False) :
    codeAny (model P w) callerA (.call (.ref fa) ⟨vals, []⟩) (fun r s' => ∃ u as, r = .ok (.ret u) ∧ ReadsW R cl s'.heap u d0 as ∧ OldK s₁.heap s'.heap ∧ s'.os = s₁.os ∧ AllBare s'.gens) s₁ := by
  obtain ⟨A, ho, ar⟩ := area_all ds vals hwl hpl hwt
  have hO : OnlyF (argH K s₁.heap A) := argH_only ar
  have hok : HOk P w (argH K s₁.heap A) s₁.heap := argH_ok ar
  have hS := dw_all KX ar ds vals hwl hpl ho
  have hV := vals_toV ho
  have hK : ∀ b u, argH K s₁.heap A b = some u → K.lookup b = none := fun b u q => (argH_is ar q).1
  have noA : ∀ {b : Addr} {o : Obj} {es : Array DictEntry} {ep : Nat}, s₁.heap.get? b = some o → o.data = .dict es ep → argH K s₁.heap A b = none := fun {b o es ep} e d => by
    cases q : argH K s₁.heap A b with
    | none => rfl
    | some u =>
      obtain ⟨_, vs, _, _, ⟨e2, _⟩ | ⟨e2, _⟩⟩ := argH_is ar q
      · rw [e2] at e
        cases e
        have d' : Data.seq vs.toArray _ = Data.dict es ep := d
        cases d'
      · rw [e2] at e
        cases e
        have d' : Data.seq vs.toArray _ = Data.dict es ep := d
        cases d'
  generalize argH K s₁.heap A = H at hO hok hS hK noA
  have base_of : ∀ {b : Addr} {o : Obj}, s₁.heap.get? b = some o → H b = none → (hidT s₁.heap H).get? b = some o := fun e n => hidT_get e n
  have nsK : ∀ {b : Addr} {m : Str → Option Value}, s₁.heap.Ns b m → (hidT s₁.heap H).Ns b m := fun {b m} ⟨o, es, ep, e, d, r⟩ => ⟨o, es, ep, base_of e (noA e d), d, r⟩
  have nK : ∀ b o, K.lookup b = some o → H b = none := fun b o e => by
    cases q : H b with
    | none => rfl
    | some u =>
      rw [hK b u q] at e
      cases e
  have hKb : K.In (hidT s₁.heap H) := fun b o e => base_of (KX b o e) (nK b o e)
  have hM : Mod K mg (hidT s₁.heap H) := ⟨hKb, nsK hns, ⟨mb, nsK hb, hbb⟩, let ⟨mc, h1, h2⟩ := hlim; ⟨mc, nsK h1, h2⟩⟩
  have e0 : Env0 P w K mg (hidT s₁.heap H) callerA [] s₁ H := ⟨rfl, hM, fun b o e => of_hidT e, Nat.le_of_eq (hidT_size _ _), trivial, fun b hb => absurd (show b ∈ ([] : List Addr) from hb) (by simp), hok, .of_eq hg⟩
  have hl : vals.length = ps.length := by rw [wellAll_len hwl]; exact hlen
  refine codeAny_mono ((F _ hKb (nsK hns)).run callerA [] s₁ H ⟨vals, []⟩ vals (vals.map toV) _ _ hr e0 (hbind s₁ vals hl) hV (hsp H _ hO hS)) fun r s' x => ?_
  cases r with
  | error e => exact (hCX H e s' x).elim
  | ok fl =>
    cases fl with
    | next => exact False.elim x
    | brk => exact False.elim x
    | cont => exact False.elim x
    | ret u =>
      obtain ⟨v, H', os, bare, un, hok', r', q⟩ := x
      have kept : ∀ b o, s₁.heap.get? b = some o → s'.heap.get? b = some o := fun b o e => by
        cases q2 : H b with
        | none => exact un.keep b o e q2 (by intro z; exact absurd (show b ∈ ([] : List Addr) from z) (by simp)) (by simp)
        | some u2 =>
          rcases hO b with z | ⟨ob, u3, z⟩
          · rw [q2] at z
            cases z
          · have z2 := un.frzs b ob _ z
            obtain ⟨e1, _⟩ := hok b _ z
            obtain ⟨e2, _⟩ := hok' b _ z2
            rw [e] at e1
            cases e1
            exact e2
      have KX' : K.In s'.heap := fun b o e => kept b o (KX b o e)
      obtain ⟨as, hrd⟩ := Dw.reads (R := R) (cl := cl) hok' KX' d0 v u q r'
      exact ⟨u, as, rfl, hrd, OldK.of_keep kept, os, bare⟩
/-! ### the row -/
theorem layable_weight {ds : List WData} (h : WData.layableAll ds = true) : ∀ d ∈ ds, d.weight ≤ 1048576 := fun d hd =>
  (PySem.W.layableW_iff.mp (List.all_eq_true.mp h d hd)).2.2
theorem encAll_len : ∀ (cs : List Codec) (a : Codec.denoteAll cs), (Codec.encAll cs a).length = cs.length
  | [], _ => rfl
  | c :: cs, a => by
    show (Codec.encAll cs a.2).length + 1 = cs.length + 1
    rw [encAll_len cs a.2]
/-- the goal that k_headS leaves (case hc), from the promise of the row's def: whatever the arguments that the codecs let and the row asks for, the def gives what stands for enc (f ..) -/
theorem walk_spec {r : OpenSpec} {k : Nat} {q : Program} {loose : List Str} {XP : (Str → Option Value) → Heap → Prop} {YP : World → Heap → Prop} {d : DefRec} {K : Params → PySem.W.Frag} {CX : World → CXT} {ps : List Str} {sp : World → Sp}
    (hwell : r.wellSaid = true) (hdf : d.params.defaults = []) (hlen : r.args.length = ps.length) (hr : Room k callerA)
    (hY : ∀ (w : World) (h : Heap), YP w h → (K w.params).In h)
    (F : ∀ (w : World) (mg : Str → Option Value) (fa : Addr) (h : Heap), YP w h → (K w.params).In h → h.Ns mainGlobals mg → mg d.name = some (.ref fa) →
      ∃ fd : FuncData, (∀ (s : Shared) (us : List Value), us.length = ps.length → BindsTo s fd ⟨us, []⟩ (ps.zip us)) ∧
        ∀ base : Heap, (K w.params).In base → base.Ns mainGlobals mg → FnOk r.prog w (K w.params) mg base (CX w) k fa fd ps (sp w))
    (hsp : ∀ (w : World) (H : Hp) (xs : List V) (a : Codec.denoteAll r.args), OnlyF H → Codec.withinAll r.args a = true → Codec.app r.args r.asked a = true → DwAll (K w.params) H xs (Codec.encAll r.args a) →
      sp w xs H (fun v H' => Dw (K w.params) H' v (r.ret.enc (Codec.app r.args r.f a))) fun _ _ _ => False)
    (hCX : ∀ (w : World) (H : Hp) (s : Shared) (e : Value) (s' : Shared), CX w [] H s (fun _ _ _ => False) e s' → False) :
    PySem.W.WalkOS q loose XP YP r d [] (fun f vs => PySem.call f vs) := by
  intro w s_0 s₁ mg mb G Y fa o pm cd doc dV kV ho hd hcd hD hmg hg args vals as hpre hlay hrd hwl hlo
  obtain ⟨a, e1, e2⟩ := PySem.W.os_pre_some hpre
  obtain ⟨e3, hwi⟩ := Codec.encAll_of_decAll r.args args a e1
  subst e3
  have KX := hY w _ Y
  obtain ⟨fd, hb, hF⟩ := F w mg fa _ Y KX G.T.g hmg
  refine PySem.W.enter_call (codeAny_mono (spec_call (R := []) (cl := classAt s_0.heap) (d0 := r.ret.enc (Codec.app r.args r.f a)) KX G.T.g G.T.b G.T.builtins G.T.nolimit hg hwl (pl_encAll _ _) (layable_weight hlay) hr hF hb (by rw [encAll_len]; exact hlen)
    (fun H xs hO hS => hsp w H xs a hO hwi e2 hS) fun H e s' => hCX w H s₁ e s') fun r' s' hq => ?_)
  obtain ⟨u, as', rfl, h1, h2, h3, h4⟩ := hq
  exact ⟨.inl ⟨u, _, as', rfl, fun _ => rfl, h1, (OpenSpec.post_iff hwell hwi _ _).mpr rfl, fun z => Bool.noConfusion (show false = true from z)⟩, h2, h3, h4⟩
/-- the same where the promise hangs on the written part alone -/
theorem walk_specK {r : OpenSpec} {k : Nat} {q : Program} {loose : List Str} {XP : (Str → Option Value) → Heap → Prop} {YP : World → Heap → Prop} {d : DefRec} {K : Params → PySem.W.Frag} {CX : CXT} {ps : List Str} {sp : PySem.W.Frag → Sp}
    (hwell : r.wellSaid = true) (hdf : d.params.defaults = []) (hlen : r.args.length = ps.length) (hr : Room k callerA)
    (hY : ∀ (w : World) (h : Heap), YP w h → (K w.params).In h)
    (F : ∀ (w : World) (mg : Str → Option Value) (fa : Addr) (h : Heap), YP w h → (K w.params).In h → h.Ns mainGlobals mg → mg d.name = some (.ref fa) →
      ∃ fd : FuncData, (∀ (s : Shared) (us : List Value), us.length = ps.length → BindsTo s fd ⟨us, []⟩ (ps.zip us)) ∧
        ∀ base : Heap, (K w.params).In base → base.Ns mainGlobals mg → FnOk r.prog w (K w.params) mg base CX k fa fd ps (sp (K w.params)))
    (hsp : ∀ (K : PySem.W.Frag) (H : Hp) (xs : List V) (a : Codec.denoteAll r.args), OnlyF H → Codec.withinAll r.args a = true → Codec.app r.args r.asked a = true → DwAll K H xs (Codec.encAll r.args a) →
      sp K xs H (fun v H' => Dw K H' v (r.ret.enc (Codec.app r.args r.f a))) fun _ _ _ => False)
    (hCX : ∀ (H : Hp) (s : Shared) (e : Value) (s' : Shared), CX [] H s (fun _ _ _ => False) e s' → False) :
    PySem.W.WalkOS q loose XP YP r d [] (fun f vs => PySem.call f vs) :=
  walk_spec (K := K) (CX := fun _ => CX) (sp := fun w => sp (K w.params)) hwell hdf hlen hr hY F (fun w H xs a h1 h2 h3 h4 => hsp (K w.params) H xs a h1 h2 h3 h4) fun _ H s e s' => hCX H s e s'
end L2
end
end
section
set_option Elab.async false
namespace Pm
open Kp193
/-! ### fractions as rationals -/
def val (q : Q) : Rat := mkRat q.top q.bottom
structure Nm (q : Q) : Prop where
  pos : 0 < q.bottom
  cop : Nat.Coprime q.top.natAbs q.bottom
theorem Nm.num {q : Q} (h : Nm q) : (val q).num = q.top := by
  unfold val
  rw [Rat.num_mkRat, if_neg (by have := h.pos; omega)]
  have e : q.bottom.gcd q.top.natAbs = 1 := (Nat.gcd_comm _ _).trans h.cop
  simp [e]
theorem Nm.den {q : Q} (h : Nm q) : (val q).den = q.bottom := by
  unfold val
  rw [Rat.den_mkRat, if_neg (by have := h.pos; omega)]
  have e : q.bottom.gcd q.top.natAbs = 1 := (Nat.gcd_comm _ _).trans h.cop
  simp [e]
theorem Nm.eq {a b : Q} (ha : Nm a) (hb : Nm b) (e : val a = val b) : a = b := by
  have h1 := ha.num
  have h2 := ha.den
  rw [e, hb.num] at h1
  rw [e, hb.den] at h2
  cases a
  cases b
  simp at h1 h2
  rw [h1, h2]
theorem val_div (q : Q) : val q = (q.top : Rat) / (q.bottom : Rat) := Rat.mkRat_eq_div _ _

theorem frac_gcd (p : Int) {q : Nat} (h : 0 < q) : 0 < Nat.gcd p.natAbs q := Nat.gcd_pos_of_pos_right _ h
theorem frac_eq (p : Int) {q : Nat} (h : 0 < q) : frac p q = ⟨p / (Nat.gcd p.natAbs q : Int), q / Nat.gcd p.natAbs q⟩ := by
  have g := frac_gcd p h
  show (if Nat.gcd p.natAbs q = 0 then _ else _) = _
  rw [if_neg (by omega)]
theorem natAbs_div_gcd (p : Int) (q : Nat) : (p / (Nat.gcd p.natAbs q : Int)).natAbs = p.natAbs / Nat.gcd p.natAbs q := by
  rw [Int.natAbs_ediv_of_dvd (Int.ofNat_dvd_left.mpr (Nat.gcd_dvd_left _ _)), Int.natAbs_natCast]
theorem frac_nm (p : Int) {q : Nat} (h : 0 < q) : Nm (frac p q) := by
  have g := frac_gcd p h
  rw [frac_eq p h]
  refine ⟨Nat.div_pos (Nat.le_of_dvd h (Nat.gcd_dvd_right _ _)) g, ?_⟩
  show Nat.Coprime (p / (Nat.gcd p.natAbs q : Int)).natAbs (q / Nat.gcd p.natAbs q)
  rw [natAbs_div_gcd]
  exact Nat.coprime_div_gcd_div_gcd g
theorem cast_ne {q : Nat} (h : 0 < q) : (q : Rat) ≠ 0 := by
  intro e
  have := Rat.natCast_eq_zero_iff.mp e
  omega
theorem val_frac (p : Int) {q : Nat} (h : 0 < q) : val (frac p q) = (p : Rat) / (q : Rat) := by
  have g := frac_gcd p h
  rw [frac_eq p h, val_div]
  show ((p / (Nat.gcd p.natAbs q : Int) : Int) : Rat) / ((q / Nat.gcd p.natAbs q : Nat) : Rat) = _
  have e1 : ((p / (Nat.gcd p.natAbs q : Int) : Int) : Rat) * (Nat.gcd p.natAbs q : Rat) = (p : Rat) := by
    have : (p / (Nat.gcd p.natAbs q : Int)) * (Nat.gcd p.natAbs q : Int) = p := Int.ediv_mul_cancel (Int.ofNat_dvd_left.mpr (Nat.gcd_dvd_left _ _))
    have t := congrArg (fun z : Int => (z : Rat)) this
    simp only [Rat.intCast_mul, Rat.intCast_natCast] at t
    exact t
  have e2 : ((q / Nat.gcd p.natAbs q : Nat) : Rat) * (Nat.gcd p.natAbs q : Rat) = (q : Rat) := by
    have : (q / Nat.gcd p.natAbs q) * (Nat.gcd p.natAbs q) = q := Nat.div_mul_cancel (Nat.gcd_dvd_right _ _)
    have t := congrArg (fun z : Nat => (z : Rat)) this
    simp only [Rat.natCast_mul] at t
    exact t
  have n1 := cast_ne g
  have n2 := cast_ne h
  have n3 : ((q / Nat.gcd p.natAbs q : Nat) : Rat) ≠ 0 := cast_ne (Nat.div_pos (Nat.le_of_dvd h (Nat.gcd_dvd_right _ _)) g)
  rw [← e1, ← e2]
  generalize ((p / (Nat.gcd p.natAbs q : Int) : Int) : Rat) = a at *
  generalize ((q / Nat.gcd p.natAbs q : Nat) : Rat) = b at *
  generalize (Nat.gcd p.natAbs q : Rat) = c at *
  clear e1 e2 n2 g
  grind
theorem whole_nm (n : Int) : Nm (whole n) := ⟨Nat.one_pos, Nat.coprime_one_right _⟩
theorem val_whole (n : Int) : val (whole n) = (n : Rat) := by
  rw [val_div]
  show (n : Rat) / ((1 : Nat) : Rat) = n
  grind
theorem frac_one (p : Int) : frac p 1 = whole p := (frac_nm p Nat.one_pos).eq (whole_nm p) (by
  rw [val_frac p Nat.one_pos, val_whole]
  grind)
theorem plus_nm {a b : Q} (ha : Nm a) (hb : Nm b) : Nm (plus a b) := frac_nm _ (Nat.mul_pos ha.pos hb.pos)
theorem less_nm {a b : Q} (ha : Nm a) (hb : Nm b) : Nm (less a b) := frac_nm _ (Nat.mul_pos ha.pos hb.pos)
theorem times_nm {a b : Q} (ha : Nm a) (hb : Nm b) : Nm (times a b) := frac_nm _ (Nat.mul_pos ha.pos hb.pos)
theorem over_nm {a b : Q} (ha : Nm a) (hb : 0 < b.top) : Nm (over a b) := frac_nm _ (Nat.mul_pos ha.pos (by omega))
theorem val_plus {a b : Q} (ha : Nm a) (hb : Nm b) : val (plus a b) = val a + val b := by
  unfold plus
  rw [val_frac _ (Nat.mul_pos ha.pos hb.pos), val_div a, val_div b]
  have n1 := cast_ne ha.pos
  have n2 := cast_ne hb.pos
  simp only [Rat.intCast_mul, Rat.intCast_add, Rat.intCast_natCast, Rat.natCast_mul]
  grind
theorem val_less {a b : Q} (ha : Nm a) (hb : Nm b) : val (less a b) = val a - val b := by
  unfold less
  rw [val_frac _ (Nat.mul_pos ha.pos hb.pos), val_div a, val_div b]
  have n1 := cast_ne ha.pos
  have n2 := cast_ne hb.pos
  simp only [Rat.intCast_mul, Rat.intCast_sub, Rat.intCast_natCast, Rat.natCast_mul]
  grind
theorem val_times {a b : Q} (ha : Nm a) (hb : Nm b) : val (times a b) = val a * val b := by
  unfold times
  rw [val_frac _ (Nat.mul_pos ha.pos hb.pos), val_div a, val_div b]
  have n1 := cast_ne ha.pos
  have n2 := cast_ne hb.pos
  simp only [Rat.intCast_mul, Rat.natCast_mul]
  grind
theorem natAbs_cast {z : Int} (h : 0 < z) : ((z.natAbs : Nat) : Rat) = (z : Rat) := by
  have e : ((z.natAbs : Nat) : Int) = z := by omega
  rw [← Rat.intCast_natCast, e]
theorem int_cast_ne {z : Int} (h : 0 < z) : (z : Rat) ≠ 0 := by
  intro e
  have := Rat.intCast_eq_zero_iff.mp e
  omega
theorem val_over {a b : Q} (ha : Nm a) (hn : Nm b) (hb : 0 < b.top) : val (over a b) = val a / val b := by
  unfold over
  rw [val_frac _ (Nat.mul_pos ha.pos (by omega)), val_div a, val_div b]
  have n1 := cast_ne ha.pos
  have n2 := cast_ne hn.pos
  have n3 := int_cast_ne hb
  simp only [Rat.intCast_mul, Rat.natCast_mul, Rat.intCast_natCast, natAbs_cast hb]
  grind
theorem pos_iff {a : Q} (ha : Nm a) : 0 < a.top ↔ 0 < val a := by
  have n1 : 0 < (a.bottom : Rat) := Rat.natCast_pos.mpr ha.pos
  rw [val_div]
  constructor
  · intro h
    have : 0 < (a.top : Rat) := Rat.intCast_pos.mpr h
    rw [Rat.div_def]
    exact Rat.mul_pos this (Rat.inv_pos.mpr n1)
  · intro h
    refine Rat.intCast_pos.mp ?_
    have e : (a.top : Rat) = (a.top : Rat) / (a.bottom : Rat) * a.bottom := by grind
    rw [e]
    exact Rat.mul_pos h n1
theorem nn_iff {a : Q} (ha : Nm a) : 0 ≤ a.top ↔ 0 ≤ val a := by
  have n1 : 0 < (a.bottom : Rat) := Rat.natCast_pos.mpr ha.pos
  rw [val_div]
  constructor
  · intro h
    have : 0 ≤ (a.top : Rat) := Rat.intCast_nonneg.mpr h
    have e2 : 0 ≤ (a.bottom : Rat)⁻¹ := Rat.le_of_lt (Rat.inv_pos.mpr n1)
    rw [Rat.div_def]
    exact Rat.mul_nonneg this e2
  · intro h
    refine Rat.intCast_nonneg.mp ?_
    have e : (a.top : Rat) = (a.top : Rat) / (a.bottom : Rat) * a.bottom := by grind
    rw [e]
    exact Rat.mul_nonneg h (by grind)

/-! ### the specification's solving, over the rationals -/
def hdR : List Rat → Rat
  | [] => 0
  | x :: _ => x
def ltR (k : Rat) : List Rat → List Rat → List Rat
  | x :: a, y :: b => (x - k * y) :: ltR k a b
  | a, _ => a
def dotR : List Rat → List Rat → Rat
  | x :: a, y :: b => x * y + dotR a b
  | _, _ => 0
def lastR : List Rat → Rat
  | [] => 0
  | [x] => x
  | _ :: l => lastR l
def solveR : Nat → List (List Rat) → Option (List Rat)
  | 0, _ => some []
  | n + 1, l => match l with
    | [] => some []
    | r :: rest => if ¬ 0 < hdR r then none else
      (solveR n (rest.map fun x => (ltR (hdR x / hdR r) x r).drop 1)).map fun xs => (lastR r - dotR (r.drop 1) xs) / hdR r :: xs
def NmL (l : List Q) : Prop := ∀ q ∈ l, Nm q
theorem NmL.hd {r : List Q} (h : NmL r) : Nm (head r) := by
  cases r with
  | nil => exact whole_nm 0
  | cons x r => exact h x (List.mem_cons_self)
theorem NmL.tl {x : Q} {r : List Q} (h : NmL (x :: r)) : NmL r := fun q hq => h q (List.mem_cons_of_mem _ hq)
theorem NmL.drop {r : List Q} (h : NmL r) (n : Nat) : NmL (r.drop n) := fun q hq => h q (List.mem_of_mem_drop hq)
theorem NmL.last : ∀ {r : List Q}, NmL r → Nm (last r)
  | [], _ => whole_nm 0
  | [x], h => h x (List.mem_cons_self)
  | _ :: y :: l, h => NmL.last (r := y :: l) h.tl
theorem hd_val (r : List Q) : val (head r) = hdR (r.map val) := by
  cases r with
  | nil => exact val_whole 0
  | cons x r => rfl
theorem last_val : ∀ r : List Q, val (last r) = lastR (r.map val)
  | [] => val_whole 0
  | [x] => rfl
  | _ :: y :: l => last_val (y :: l)
theorem lt_val {k : Q} (hk : Nm k) : ∀ {a b : List Q}, NmL a → NmL b → NmL (lessTimes k a b) ∧ (lessTimes k a b).map val = ltR (val k) (a.map val) (b.map val)
  | [], _, ha, _ => ⟨by simpa [lessTimes] using ha, by simp [lessTimes, ltR]⟩
  | x :: a, [], ha, _ => ⟨by simpa [lessTimes] using ha, by simp [lessTimes, ltR]⟩
  | x :: a, y :: b, ha, hb => by
    obtain ⟨h1, h2⟩ := lt_val hk ha.tl hb.tl
    have hx := ha x List.mem_cons_self
    have hy := hb y List.mem_cons_self
    refine ⟨fun q hq => ?_, ?_⟩
    · rcases List.mem_cons.mp hq with e | hq
      · rw [e]
        exact less_nm hx (times_nm hk hy)
      · exact h1 q hq
    · show val (less x (times k y)) :: (lessTimes k a b).map val = _
      rw [h2, val_less hx (times_nm hk hy), val_times hk hy]
      rfl
theorem dot_val : ∀ {a b : List Q}, NmL a → NmL b → Nm (dot a b) ∧ val (dot a b) = dotR (a.map val) (b.map val)
  | [], _, _, _ => ⟨by simpa [dot] using whole_nm 0, by simpa [dot, dotR] using val_whole 0⟩
  | x :: a, [], _, _ => ⟨by simpa [dot] using whole_nm 0, by simpa [dot, dotR] using val_whole 0⟩
  | x :: a, y :: b, ha, hb => by
    obtain ⟨h1, h2⟩ := dot_val ha.tl hb.tl
    have hx := ha x List.mem_cons_self
    have hy := hb y List.mem_cons_self
    refine ⟨plus_nm (times_nm hx hy) h1, ?_⟩
    show val (plus (times x y) (dot a b)) = _
    rw [val_plus (times_nm hx hy) h1, val_times hx hy, h2]
    rfl
theorem pos_val {r : List Q} (h : NmL r) : (positive (head r) = false) = ¬ 0 < hdR (r.map val) := by
  unfold positive
  rw [← hd_val, ← pos_iff h.hd]
  simp
theorem solve_val : ∀ (n : Nat) (l : List (List Q)), (∀ r ∈ l, NmL r) → (solve n l).map (·.map val) = solveR n (l.map (·.map val)) ∧ ∀ xs, solve n l = some xs → NmL xs
  | 0, l, _ => ⟨by simp [solve, solveR], fun xs h q hq => by simp [solve] at h; subst h; cases hq⟩
  | n + 1, [], _ => ⟨by simp [solve, solveR], fun xs h q hq => by simp [solve] at h; subst h; cases hq⟩
  | n + 1, r :: rest, h => by
    have hr := h r List.mem_cons_self
    have e1 : solve (n + 1) (r :: rest) = if positive (head r) = false then none else (solve n (rest.map fun x => (lessTimes (over (head x) (head r)) x r).drop 1)).map fun xs => over (less (last r) (dot (r.drop 1) xs)) (head r) :: xs := rfl
    have e2 : solveR (n + 1) ((r :: rest).map (·.map val)) = if ¬ 0 < hdR (r.map val) then none else
      (solveR n ((rest.map (·.map val)).map fun x => (ltR (hdR x / hdR (r.map val)) x (r.map val)).drop 1)).map fun xs => (lastR (r.map val) - dotR ((r.map val).drop 1) xs) / hdR (r.map val) :: xs := rfl
    rw [e1, e2]
    by_cases hp : positive (head r) = false
    · rw [if_pos hp, if_pos ((pos_val hr) ▸ hp)]
      exact ⟨rfl, fun xs h => by cases h⟩
    · rw [if_neg hp, if_neg (fun z => hp ((pos_val hr).symm ▸ z))]
      have hp' : 0 < (head r).top := by
        unfold positive at hp
        simpa using hp
      have hN : ∀ r' ∈ (rest.map fun x => (lessTimes (over (head x) (head r)) x r).drop 1), NmL r' := by
        intro r' hr'
        obtain ⟨x, hx, rfl⟩ := List.mem_map.mp hr'
        exact (lt_val (over_nm (h x (List.mem_cons_of_mem _ hx)).hd hp') (h x (List.mem_cons_of_mem _ hx)) hr).1.drop 1
      obtain ⟨i1, i2⟩ := solve_val n _ hN
      have e3 : (rest.map fun x => (lessTimes (over (head x) (head r)) x r).drop 1).map (·.map val) = (rest.map (·.map val)).map fun x => (ltR (hdR x / hdR (r.map val)) x (r.map val)).drop 1 := by
        rw [List.map_map, List.map_map]
        refine List.map_congr_left fun x hx => ?_
        have hx' := h x (List.mem_cons_of_mem _ hx)
        show ((lessTimes (over (head x) (head r)) x r).drop 1).map val = (ltR (hdR (x.map val) / hdR (r.map val)) (x.map val) (r.map val)).drop 1
        rw [List.map_drop, (lt_val (over_nm hx'.hd hp') hx' hr).2, val_over hx'.hd hr.hd hp', hd_val, hd_val]
      rw [e3] at i1
      rw [← i1]
      cases e4 : solve n (rest.map fun x => (lessTimes (over (head x) (head r)) x r).drop 1) with
      | none => exact ⟨rfl, fun xs h => by cases h⟩
      | some ys =>
        have hy := i2 ys e4
        obtain ⟨d1, d2⟩ := dot_val (hr.drop 1) hy
        refine ⟨?_, fun xs h => ?_⟩
        · show some (val (over (less (last r) (dot (r.drop 1) ys)) (head r)) :: ys.map val) = some ((lastR (r.map val) - dotR ((r.map val).drop 1) (ys.map val)) / hdR (r.map val) :: ys.map val)
          rw [val_over (less_nm hr.last d1) hr.hd hp', val_less hr.last d1, d2, hd_val, last_val, List.map_drop]
        · have e5 := Option.some.inj h
          subst e5
          intro q hq
          rcases List.mem_cons.mp hq with e | hq
          · rw [e]
            exact over_nm (less_nm hr.last d1) hp'
          · exact hy q hq

/-! ### a solution solves -/
theorem lt_len (k : Rat) : ∀ a b : List Rat, (ltR k a b).length = a.length
  | [], _ => by simp [ltR]
  | _ :: _, [] => by simp [ltR]
  | _ :: a, _ :: b => by simp [ltR, lt_len k a b]
theorem lt_get (k : Rat) : ∀ {a b : List Rat} {j : Nat} {x y : Rat}, a[j]? = some x → b[j]? = some y → (ltR k a b)[j]? = some (x - k * y)
  | [], _, _, _, _, h, _ => by simp at h
  | _ :: _, [], _, _, _, _, h => by simp at h
  | x' :: a, y' :: b, 0, x, y, h, g => by
    simp at h g
    subst h g
    simp [ltR]
  | x' :: a, y' :: b, j + 1, x, y, h, g => by
    simp at h g
    simpa [ltR] using lt_get k h g
theorem lt_dot (k : Rat) : ∀ (a b xs : List Rat), a.length = b.length → dotR (ltR k a b) xs = dotR a xs - k * dotR b xs
  | [], [], xs, _ => by simp [ltR, dotR]; grind
  | [], _ :: _, xs, h => by simp at h
  | _ :: _, [], xs, h => by simp at h
  | _ :: a, _ :: b, [], h => by simp [ltR, dotR]; grind
  | x :: a, y :: b, z :: xs, h => by
    have ih := lt_dot k a b xs (by simpa using h)
    simp only [ltR, dotR]
    rw [ih]
    grind
theorem lt_last (k : Rat) : ∀ (a b : List Rat), a.length = b.length → lastR (ltR k a b) = lastR a - k * lastR b
  | [], [], _ => by simp [ltR, lastR]; grind
  | [], _ :: _, h => by simp at h
  | _ :: _, [], h => by simp at h
  | [x], [y], _ => by simp [ltR, lastR]
  | [x], _ :: _ :: _, h => by simp at h
  | _ :: _ :: _, [_], h => by simp at h
  | _ :: x :: a, _ :: y :: b, h => by
    have ih := lt_last k (x :: a) (y :: b) (by simpa using h)
    simpa [ltR, lastR] using ih
theorem last_drop : ∀ {r : List Rat}, 2 ≤ r.length → lastR (r.drop 1) = lastR r
  | [], h => by simp at h
  | [_], h => by simp at h
  | _ :: _ :: _, _ => rfl
theorem dot_hd : ∀ {r : List Rat} (x : Rat) (xs : List Rat), 1 ≤ r.length → dotR r (x :: xs) = hdR r * x + dotR (r.drop 1) xs
  | [], _, _, h => by simp at h
  | _ :: _, _, _, _ => rfl
theorem sound : ∀ (n : Nat) (l : List (List Rat)) (xs : List Rat), l.length = n → (∀ r ∈ l, r.length = n + 1) → solveR n l = some xs → xs.length = n ∧ ∀ r ∈ l, dotR r xs = lastR r
  | 0, l, xs, hl, _, h => by
    have e : l = [] := List.length_eq_zero_iff.mp hl
    subst e
    simp [solveR] at h
    subst h
    exact ⟨rfl, fun r hr => by cases hr⟩
  | n + 1, [], xs, hl, _, h => by simp at hl
  | n + 1, r :: rest, xs, hl, hw, h => by
    have e2 : solveR (n + 1) (r :: rest) = if ¬ 0 < hdR r then none else
      (solveR n (rest.map fun x => (ltR (hdR x / hdR r) x r).drop 1)).map fun xs => (lastR r - dotR (r.drop 1) xs) / hdR r :: xs := rfl
    rw [e2] at h
    by_cases hp : 0 < hdR r
    · rw [if_neg (fun z => z hp)] at h
      have hr := hw r List.mem_cons_self
      cases e3 : solveR n (rest.map fun x => (ltR (hdR x / hdR r) x r).drop 1) with
      | none =>
        rw [e3] at h
        cases h
      | some ys =>
        rw [e3] at h
        have e4 := Option.some.inj h
        have hlr : rest.length = n := by simpa using hl
        obtain ⟨i1, i2⟩ := sound n _ ys (by rw [List.length_map]; exact hlr) (by
          intro r' hr'
          obtain ⟨x, hx, rfl⟩ := List.mem_map.mp hr'
          rw [List.length_drop, lt_len, hw x (List.mem_cons_of_mem _ hx)]
          omega) e3
        have hne : hdR r ≠ 0 := fun z => by
          rw [z] at hp
          exact Rat.lt_irrefl hp
        subst e4
        refine ⟨by simp [i1], fun x hx => ?_⟩
        rcases List.mem_cons.mp hx with e | hx
        · subst e
          rw [dot_hd _ _ (by omega)]
          grind
        · have hxl := hw x (List.mem_cons_of_mem _ hx)
          have q := i2 _ (List.mem_map.mpr ⟨x, hx, rfl⟩)
          have d1 : (ltR (hdR x / hdR r) x r).drop 1 = ltR (hdR x / hdR r) (x.drop 1) (r.drop 1) := by
            match x, r, hxl, hr with
            | _ :: _, _ :: _, _, _ => rfl
          have q2 : dotR (ltR (hdR x / hdR r) (x.drop 1) (r.drop 1)) ys = lastR (ltR (hdR x / hdR r) (x.drop 1) (r.drop 1)) := by
            rw [← d1]
            exact q
          have ll : (x.drop 1).length = (r.drop 1).length := by rw [List.length_drop, List.length_drop, hxl, hr]
          rw [lt_dot _ _ _ _ ll, lt_last _ _ _ ll, last_drop (by omega), last_drop (by omega)] at q2
          rw [dot_hd _ _ (by omega)]
          grind
    · rw [if_pos hp] at h
      cases h
/-! ### the program's way: every other row, whole numbers, no division -/
abbrev Mx := Nat → Nat → Int
def stepF (a : Mx) (t : Nat) : Mx := fun i j => if i = t then a t j else a t t * a i j - a i t * a t j
def itF (a : Mx) : Nat → Mx
  | 0 => a
  | t + 1 => stepF (itF a t) t
def runF : Nat → Nat → Mx → Option Mx
  | 0, _, a => some a
  | n + 1, t, a => if a t t ≤ 0 then none else runF n (t + 1) (stepF a t)
theorem runF_some (a : Mx) : ∀ (n t : Nat), (∀ u, t ≤ u → u < t + n → 0 < itF a u u u) → runF n t (itF a t) = some (itF a (t + n))
  | 0, t, _ => rfl
  | n + 1, t, h => by
    have h0 := h t (Nat.le_refl _) (by omega)
    show (if itF a t t t ≤ 0 then none else runF n (t + 1) (itF a (t + 1))) = _
    rw [if_neg (by omega), runF_some a n (t + 1) fun u h1 h2 => h u (by omega) (by omega)]
    congr 2
    omega
theorem runF_none (a : Mx) : ∀ (n t : Nat) (u : Nat), t ≤ u → u < t + n → itF a u u u ≤ 0 → runF n t (itF a t) = none
  | 0, t, u, h1, h2, _ => by omega
  | n + 1, t, u, h1, h2, h3 => by
    show (if itF a t t t ≤ 0 then none else runF n (t + 1) (itF a (t + 1))) = _
    by_cases h0 : itF a t t t ≤ 0
    · rw [if_pos h0]
    · rw [if_neg h0]
      have : u ≠ t := fun e => by subst e; exact h0 h3
      exact runF_none a n (t + 1) u (by omega) (by omega) h3
/-- rows behind t, columns from t on, are those of the specification times a number above 0 -/
def Rel (n t : Nat) (a : Mx) (S : List (List Rat)) : Prop := S.length = n ∧ ∀ i, i < n → ∃ r, S[i]? = some r ∧ r.length = n + 1 ∧ ∃ c : Rat, 0 < c ∧ ∀ j, j ≤ n → ∃ x, r[j]? = some x ∧ ((a (t + i) (t + j) : Int) : Rat) = c * x
theorem hd_of {r : List Rat} {x : Rat} (h : r[0]? = some x) : hdR r = x := by
  cases r with
  | nil => simp at h
  | cons y r => simpa [hdR] using h
theorem rel_some : ∀ (n t : Nat) (a : Mx) (S : List (List Rat)), Rel n t a S → (runF n t a).isSome = (solveR n S).isSome
  | 0, t, a, S, _ => by simp [runF, solveR]
  | n + 1, t, a, [], h => by
    have := h.1
    simp at this
  | n + 1, t, a, r :: rest, ⟨hl, h⟩ => by
    obtain ⟨r', er, hr, c0, hc0, hj⟩ := h 0 (by omega)
    simp at er
    subst er
    obtain ⟨x0, ex0, ea0⟩ := hj 0 (by omega)
    have hh := hd_of ex0
    have e2 : solveR (n + 1) (r :: rest) = if ¬ 0 < hdR r then none else
      (solveR n (rest.map fun x => (ltR (hdR x / hdR r) x r).drop 1)).map fun xs => (lastR r - dotR (r.drop 1) xs) / hdR r :: xs := rfl
    show (if a t t ≤ 0 then none else runF n (t + 1) (stepF a t)).isSome = _
    rw [e2, hh]
    have ea0' : ((a t t : Int) : Rat) = c0 * x0 := ea0
    by_cases hp : 0 < x0
    · have hp' : 0 < a t t := by
        refine Rat.intCast_pos.mp ?_
        rw [ea0']
        exact Rat.mul_pos hc0 hp
      rw [if_neg (by omega), if_neg (fun z => z hp), Option.isSome_map]
      refine rel_some n (t + 1) (stepF a t) _ ⟨by simpa using hl, fun i hi => ?_⟩
      obtain ⟨x, ex, hx, c, hc, hjx⟩ := h (i + 1) (by omega)
      have ex' : rest[i]? = some x := by simpa using ex
      obtain ⟨y0, ey0, eb0⟩ := hjx 0 (by omega)
      have hh' := hd_of ey0
      refine ⟨_, by rw [List.getElem?_map, ex']; rfl, ?_, c * c0 * x0, Rat.mul_pos (Rat.mul_pos hc hc0) hp, fun j hjn => ?_⟩
      · rw [List.length_drop, lt_len, hx]
        omega
      · obtain ⟨y, ey, eb⟩ := hjx (j + 1) (by omega)
        obtain ⟨z, ez, ec⟩ := hj (j + 1) (by omega)
        refine ⟨y - hdR x / x0 * z, ?_, ?_⟩
        · rw [List.getElem?_drop, Nat.add_comm 1 j]
          exact lt_get _ ey ez
        · have e5 : stepF a t (t + 1 + i) (t + 1 + j) = a t t * a (t + (i + 1)) (t + (j + 1)) - a (t + (i + 1)) (t + 0) * a (t + 0) (t + (j + 1)) := by
            unfold stepF
            rw [if_neg (by omega), show t + 1 + i = t + (i + 1) by omega, show t + 1 + j = t + (j + 1) by omega]
            rfl
          rw [e5, Rat.intCast_sub, Rat.intCast_mul, Rat.intCast_mul, ea0', eb, eb0, ec, hh']
          have hne : x0 ≠ 0 := fun z => by
            rw [z] at hp
            exact Rat.lt_irrefl hp
          grind
    · have hp' : a t t ≤ 0 := by
        rcases Int.lt_or_le 0 (a t t) with z | z
        · have z1 := Rat.intCast_pos.mpr z
          rw [ea0'] at z1
          exact absurd ((Rat.mul_pos_iff_of_pos_left hc0).mp z1) hp
        · exact z
      rw [if_pos hp', if_pos hp]
      rfl

/-! ### what stays through the steps -/
def sumR : Nat → (Nat → Rat) → Rat
  | 0, _ => 0
  | n + 1, f => f 0 + sumR n fun j => f (j + 1)
theorem sum_congr : ∀ (n : Nat) {f g : Nat → Rat}, (∀ j, j < n → f j = g j) → sumR n f = sumR n g
  | 0, _, _, _ => rfl
  | n + 1, f, g, h => by
    show f 0 + sumR n (fun j => f (j + 1)) = g 0 + sumR n fun j => g (j + 1)
    rw [h 0 (by omega), sum_congr n fun j hj => h (j + 1) (by omega)]
theorem sum_lin : ∀ (n : Nat) (p e : Rat) (f g : Nat → Rat), sumR n (fun j => p * f j - e * g j) = p * sumR n f - e * sumR n g
  | 0, p, e, f, g => by
    show (0 : Rat) = p * 0 - e * 0
    grind
  | n + 1, p, e, f, g => by
    have ih := sum_lin n p e (fun j => f (j + 1)) (fun j => g (j + 1))
    show p * f 0 - e * g 0 + sumR n (fun j => p * f (j + 1) - e * g (j + 1)) = p * (f 0 + sumR n fun j => f (j + 1)) - e * (g 0 + sumR n fun j => g (j + 1))
    rw [ih]
    grind
theorem sum_zero : ∀ (n : Nat) (f : Nat → Rat), (∀ j, j < n → f j = 0) → sumR n f = 0
  | 0, _, _ => rfl
  | n + 1, f, h => by
    show f 0 + sumR n (fun j => f (j + 1)) = 0
    rw [h 0 (by omega), sum_zero n _ fun j hj => h (j + 1) (by omega)]
    grind
theorem sum_single : ∀ (n : Nat) (f : Nat → Rat) (i : Nat), i < n → (∀ j, j < n → j ≠ i → f j = 0) → sumR n f = f i
  | 0, _, _, h, _ => by omega
  | n + 1, f, 0, _, h => by
    show f 0 + sumR n (fun j => f (j + 1)) = f 0
    rw [sum_zero n _ fun j hj => h (j + 1) (by omega) (by omega)]
    grind
  | n + 1, f, i + 1, hi, h => by
    show f 0 + sumR n (fun j => f (j + 1)) = f (i + 1)
    rw [h 0 (by omega) (by omega), sum_single n (fun j => f (j + 1)) i (by omega) fun j hj hne => h (j + 1) (by omega) (by omega)]
    grind
theorem dot_sum : ∀ (n : Nat) (r xs : List Rat), n ≤ r.length → xs.length = n → dotR r xs = sumR n fun j => r.getD j 0 * xs.getD j 0
  | 0, r, xs, _, h => by
    have e : xs = [] := List.length_eq_zero_iff.mp h
    subst e
    cases r <;> simp [dotR, sumR]
  | n + 1, [], xs, h, _ => by simp at h
  | n + 1, _ :: _, [], _, h => by simp at h
  | n + 1, x :: r, y :: xs, h1, h2 => by
    have ih := dot_sum n r xs (by simpa using h1) (by simpa using h2)
    simp only [dotR, sumR]
    rw [ih]
    simp
/-- y solves a -/
def Solves (n : Nat) (a : Mx) (y : Nat → Rat) : Prop := ∀ i, i < n → sumR n (fun j => (a i j : Rat) * y j) = (a i n : Rat)
theorem Solves.step {n : Nat} {a : Mx} {y : Nat → Rat} (h : Solves n a y) {t : Nat} (ht : t < n) : Solves n (stepF a t) y := by
  intro i hi
  by_cases e : i = t
  · subst e
    have e1 : ∀ j, stepF a i i j = a i j := fun j => by unfold stepF; rw [if_pos rfl]
    rw [e1]
    rw [sum_congr n (g := fun j => (a i j : Rat) * y j) fun j _ => by rw [e1]]
    exact h i hi
  · have e1 : ∀ j, stepF a t i j = a t t * a i j - a i t * a t j := fun j => by unfold stepF; rw [if_neg e]
    rw [e1, sum_congr n (g := fun j => (a t t : Rat) * ((a i j : Rat) * y j) - (a i t : Rat) * ((a t j : Rat) * y j)) fun j _ => by
      rw [e1, Rat.intCast_sub, Rat.intCast_mul, Rat.intCast_mul]
      grind, sum_lin, h i hi, h t ht, Rat.intCast_sub, Rat.intCast_mul, Rat.intCast_mul]
theorem Solves.it {n : Nat} {a : Mx} {y : Nat → Rat} (h : Solves n a y) : ∀ t, t ≤ n → Solves n (itF a t) y
  | 0, _ => h
  | t + 1, ht => (h.it t (by omega)).step (by omega)
/-- unknowns below t are taken off -/
structure Off (n t : Nat) (a : Mx) : Prop where
  z : ∀ i j, i < n → j < t → i ≠ j → a i j = 0
  p : ∀ j, j < t → 0 < a j j
theorem Off.step {n t : Nat} {a : Mx} (h : Off n t a) (ht : t < n) (hp : 0 < a t t) : Off n (t + 1) (stepF a t) := by
  constructor
  · intro i j hi hj hne
    unfold stepF
    by_cases e : i = t
    · rw [if_pos e]
      subst e
      exact h.z i j hi (by omega) hne
    · rw [if_neg e]
      by_cases e2 : j = t
      · subst e2
        rw [Int.mul_comm, Int.sub_self]
      · rw [h.z i j hi (by omega) hne, h.z t j ht (by omega) (by omega), Int.mul_zero, Int.mul_zero]
        rfl
  · intro j hj
    unfold stepF
    by_cases e : j = t
    · rw [if_pos e]
      subst e
      exact hp
    · rw [if_neg e, h.z t j ht (by omega) (by omega), Int.mul_zero, Int.sub_zero]
      exact Int.mul_pos hp (h.p j (by omega))
theorem off_it {n : Nat} {a : Mx} : ∀ t, t ≤ n → (∀ u, u < t → 0 < itF a u u u) → Off n t (itF a t)
  | 0, _, _ => ⟨fun _ _ _ h => absurd h (Nat.not_lt_zero _), fun _ h => absurd h (Nat.not_lt_zero _)⟩
  | t + 1, ht, h => (off_it t (by omega) fun u hu => h u (by omega)).step (by omega) (h t (by omega))
/-- off the diagonal nothing above 0; what it comes to not below -/
structure Sg (n : Nat) (a : Mx) : Prop where
  o : ∀ i j, i < n → j < n → i ≠ j → a i j ≤ 0
  b : ∀ i, i < n → 0 ≤ a i n
theorem Sg.step {n t : Nat} {a : Mx} (h : Sg n a) (ht : t < n) (hp : 0 < a t t) : Sg n (stepF a t) := by
  constructor
  · intro i j hi hj hne
    unfold stepF
    by_cases e : i = t
    · rw [if_pos e]
      subst e
      exact h.o i j hi hj hne
    · rw [if_neg e]
      by_cases e2 : j = t
      · subst e2
        rw [Int.mul_comm, Int.sub_self]
        exact Int.le_refl _
      · have h1 : a t t * a i j ≤ 0 := Int.mul_nonpos_of_nonneg_of_nonpos (by omega) (h.o i j hi hj hne)
        have h2 : 0 ≤ a i t * a t j := Int.mul_nonneg_of_nonpos_of_nonpos (h.o i t hi ht e) (h.o t j ht hj (fun z => e2 z.symm))
        omega
  · intro i hi
    unfold stepF
    by_cases e : i = t
    · rw [if_pos e]
      exact h.b t ht
    · rw [if_neg e]
      have h1 : 0 ≤ a t t * a i n := Int.mul_nonneg (by omega) (h.b i hi)
      have h2 : a i t * a t n ≤ 0 := Int.mul_nonpos_of_nonpos_of_nonneg (h.o i t hi ht e) (h.b t ht)
      omega
theorem sg_it {n : Nat} {a : Mx} (h : Sg n a) : ∀ t, t ≤ n → (∀ u, u < t → 0 < itF a u u u) → Sg n (itF a t)
  | 0, _, _ => h
  | t + 1, ht, g => (sg_it h t (by omega) fun u hu => g u (by omega)).step (by omega) (g t (by omega))
/-- sizes -/
structure Bd (n t : Nat) (a : Mx) : Prop where
  c : ∀ i j, i < n → j < n → (a i j).natAbs < 2 ^ (11 * 2 ^ t - 1)
  b : ∀ i, i < n → (a i n).natAbs < 2 ^ (11 * 2 ^ t + 9)
theorem two_pos (t : Nat) : 1 ≤ 2 ^ t := Nat.one_le_two_pow
theorem bd_mul {x y u v : Int} {m k : Nat} (hx : x.natAbs < 2 ^ m) (hy : y.natAbs < 2 ^ k) (hu : u.natAbs < 2 ^ m) (hv : v.natAbs < 2 ^ k) : (x * y - u * v).natAbs < 2 ^ (m + k + 1) := by
  have h1 : (x * y).natAbs < 2 ^ (m + k) := by
    rw [Int.natAbs_mul, Nat.pow_add]
    exact Nat.mul_lt_mul_of_lt_of_lt hx hy
  have h2 : (u * v).natAbs < 2 ^ (m + k) := by
    rw [Int.natAbs_mul, Nat.pow_add]
    exact Nat.mul_lt_mul_of_lt_of_lt hu hv
  rw [Nat.pow_succ]
  omega
theorem Bd.step {n t : Nat} {a : Mx} (h : Bd n t a) (ht : t < n) : Bd n (t + 1) (stepF a t) := by
  have p1 := two_pos t
  have e1 : 11 * 2 ^ t - 1 + (11 * 2 ^ t - 1) + 1 = 11 * 2 ^ (t + 1) - 1 := by
    rw [Nat.pow_succ]
    omega
  have e2 : 11 * 2 ^ t - 1 + (11 * 2 ^ t + 9) + 1 = 11 * 2 ^ (t + 1) + 9 := by
    rw [Nat.pow_succ]
    omega
  constructor
  · intro i j hi hj
    unfold stepF
    by_cases e : i = t
    · rw [if_pos e]
      exact Nat.lt_of_lt_of_le (h.c t j ht hj) (Nat.pow_le_pow_right (by decide) (by omega))
    · rw [if_neg e, ← e1]
      exact bd_mul (h.c t t ht ht) (h.c i j hi hj) (h.c i t hi ht) (h.c t j ht hj)
  · intro i hi
    unfold stepF
    by_cases e : i = t
    · rw [if_pos e]
      exact Nat.lt_of_lt_of_le (h.b t ht) (Nat.pow_le_pow_right (by decide) (by omega))
    · rw [if_neg e, ← e2]
      exact bd_mul (h.c t t ht ht) (h.b i hi) (h.c i t hi ht) (h.b t ht)
theorem bd_it {n : Nat} {a : Mx} (h : Bd n 0 a) : ∀ t, t ≤ n → Bd n t (itF a t)
  | 0, _ => h
  | t + 1, ht => (bd_it h t (by omega)).step (by omega)
/-! ### together -/
def mat (n : Nat) (a : Mx) : List (List Int) := (List.range n).map fun i => (List.range (n + 1)).map fun j => a i j
def matQ (n : Nat) (a : Mx) : List (List Q) := (mat n a).map fun r => r.map whole
def matR (n : Nat) (a : Mx) : List (List Rat) := (List.range n).map fun i => (List.range (n + 1)).map fun j => (a i j : Rat)
theorem matQ_val (n : Nat) (a : Mx) : (matQ n a).map (·.map val) = matR n a := by
  unfold matQ mat matR
  rw [List.map_map, List.map_map]
  refine List.map_congr_left fun i _ => ?_
  show (((List.range (n + 1)).map fun j => a i j).map whole).map val = _
  rw [List.map_map, List.map_map]
  refine List.map_congr_left fun j _ => ?_
  exact val_whole _
theorem matQ_nm (n : Nat) (a : Mx) : ∀ r ∈ matQ n a, NmL r := by
  intro r hr q hq
  obtain ⟨r', _, rfl⟩ := List.mem_map.mp hr
  obtain ⟨z, _, rfl⟩ := List.mem_map.mp hq
  exact whole_nm z
theorem matR_rel (n : Nat) (a : Mx) : Rel n 0 a (matR n a) := by
  refine ⟨by simp [matR], fun i hi => ⟨(List.range (n + 1)).map fun j => (a i j : Rat), ?_, by simp, 1, by decide, fun j hj => ⟨(a i j : Rat), ?_, ?_⟩⟩⟩
  · unfold matR
    rw [List.getElem?_map, List.getElem?_range hi]
    rfl
  · rw [List.getElem?_map, List.getElem?_range (by omega)]
    rfl
  · rw [Nat.zero_add, Nat.zero_add]
    grind
def Good (n : Nat) (a : Mx) : Prop := ∀ u, u < n → 0 < itF a u u u
/-- what the program finds -/
def found (n : Nat) (a : Mx) : List Q := (List.range n).map fun i => frac (itF a n i n) (itF a n i i).toNat
theorem last_of : ∀ {r : List Rat} {n : Nat} {x : Rat}, r.length = n + 1 → r[n]? = some x → lastR r = x
  | [], _, _, h, _ => by simp at h
  | [y], 0, x, _, h => by simpa [lastR] using h
  | [y], n + 1, x, h, _ => by simp at h
  | _ :: _ :: _, 0, _, h, _ => by simp at h
  | _ :: z :: r, n + 1, x, h1, h2 => by
    have := last_of (r := z :: r) (n := n) (x := x) (by simpa using h1) (by simpa using h2)
    simpa [lastR] using this
theorem solve_none {n : Nat} {a : Mx} {u : Nat} (hu : u < n) (h : itF a u u u ≤ 0) : solve n (matQ n a) = none := by
  have h1 := runF_none a n 0 u (by omega) (by omega) h
  have h2 := rel_some n 0 a _ (matR_rel n a)
  have h3 : runF n 0 a = none := h1
  rw [h3] at h2
  obtain ⟨h4, _⟩ := solve_val n _ (matQ_nm n a)
  rw [matQ_val] at h4
  cases e : solve n (matQ n a) with
  | none => rfl
  | some xs =>
    rw [e] at h4
    rw [← h4] at h2
    cases h2
theorem cast_pos_ne {z : Int} (h : 0 < z) : ((z.toNat : Nat) : Rat) = (z : Rat) := by
  have e : ((z.toNat : Nat) : Int) = z := by omega
  rw [← Rat.intCast_natCast, e]
theorem solve_found {n : Nat} {a : Mx} (h : Good n a) : solve n (matQ n a) = some (found n a) := by
  have h1 : runF n 0 a = some (itF a (0 + n)) := runF_some a n 0 fun u _ hu => h u (by omega)
  have h2 := rel_some n 0 a _ (matR_rel n a)
  rw [h1] at h2
  obtain ⟨h4, h5⟩ := solve_val n _ (matQ_nm n a)
  rw [matQ_val] at h4
  cases e : solve n (matQ n a) with
  | none =>
    rw [e] at h4
    rw [← h4] at h2
    cases h2
  | some xs =>
    rw [e] at h4
    have hN := h5 xs e
    obtain ⟨s1, s2⟩ := sound n (matR n a) (xs.map val) (by simp [matR]) (by
      intro r hr
      obtain ⟨i, _, rfl⟩ := List.mem_map.mp hr
      simp) h4.symm
    have hlen : xs.length = n := by simpa using s1
    have hS : Solves n a fun j => (xs.map val).getD j 0 := by
      intro i hi
      have q := s2 ((List.range (n + 1)).map fun j => (a i j : Rat)) (List.mem_map.mpr ⟨i, List.mem_range.mpr hi, rfl⟩)
      rw [last_of (n := n) (x := (a i n : Rat)) (by simp) (by rw [List.getElem?_map, List.getElem?_range (by omega)]; rfl)] at q
      rw [dot_sum n _ _ (by simp) s1] at q
      rw [← q]
      refine sum_congr n fun j hj => ?_
      congr 1
      rw [List.getD_eq_getElem?_getD, List.getElem?_map, List.getElem?_range (by omega)]
      rfl
    have hO := off_it (a := a) n (Nat.le_refl _) h
    have hS2 := hS.it n (Nat.le_refl _)
    refine congrArg some (List.ext_getElem? fun i => ?_)
    by_cases hi : i < n
    · have e1 : xs[i]? = some xs[i] := List.getElem?_eq_getElem (by omega)
      have hb := hO.p i hi
      have q := hS2 i hi
      rw [sum_single n _ i hi fun j hj hne => by rw [hO.z i j hi hj (fun z => hne z.symm)]; grind] at q
      have e2 : (xs.map val).getD i 0 = val xs[i] := by
        rw [List.getD_eq_getElem?_getD, List.getElem?_map, e1]
        rfl
      simp only [e2] at q
      unfold found
      rw [e1, List.getElem?_map, List.getElem?_range hi]
      refine congrArg some ((hN _ (List.getElem_mem _)).eq (frac_nm _ (by omega)) ?_)
      rw [val_frac _ (by omega), cast_pos_ne hb, ← q]
      have n1 := int_cast_ne hb
      grind
    · rw [List.getElem?_eq_none (by omega), List.getElem?_eq_none (by simp [found]; omega)]
theorem found_nm {n : Nat} {a : Mx} (h : Good n a) : NmL (found n a) := by
  have hO := off_it (a := a) n (Nat.le_refl _) h
  intro q hq
  obtain ⟨i, hi, rfl⟩ := List.mem_map.mp hq
  have := hO.p i (List.mem_range.mp hi)
  exact frac_nm _ (by omega)
theorem frac_nn {p : Int} {q : Nat} (h : 0 ≤ p) (hq : 0 < q) : 0 ≤ (frac p q).top := by
  rw [frac_eq p hq]
  exact Int.ediv_nonneg h (by omega)
theorem found_nn {n : Nat} {a : Mx} (h : Good n a) (s : Sg n a) : ∀ q ∈ found n a, 0 ≤ q.top := by
  have hO := off_it (a := a) n (Nat.le_refl _) h
  have hs := sg_it s n (Nat.le_refl _) h
  intro q hq
  obtain ⟨i, hi, rfl⟩ := List.mem_map.mp hq
  have := hO.p i (List.mem_range.mp hi)
  exact frac_nn (hs.b i (List.mem_range.mp hi)) (by omega)
end Pm
end
section
set_option Elab.async false
namespace Pm
open Kp193
/-! ### what is used for a kind -/
theorem nodup_len {α : Type} [DecidableEq α] : ∀ {l m : List α}, l.Nodup → (∀ x ∈ l, x ∈ m) → l.length ≤ m.length
  | [], _, _, _ => Nat.zero_le _
  | a :: l, m, hn, hs => by
    obtain ⟨h1, h2⟩ := List.nodup_cons.mp hn
    have ha : a ∈ m := hs a List.mem_cons_self
    have ih := nodup_len (l := l) (m := m.erase a) h2 fun x hx => by
      have hne : x ≠ a := fun e => h1 (e ▸ hx)
      exact (List.mem_erase_of_ne hne).mpr (hs x (List.mem_cons_of_mem _ hx))
    have := List.length_erase_of_mem ha
    have hp := List.length_pos_of_mem ha
    rw [List.length_cons]
    omega
def stp (h : House) (s : List Nat) : List Nat := (List.range KINDS).filter fun j => s.contains j || s.any fun k => decide (0 < usesOf h k j)
theorem mem_stp {h : House} {s : List Nat} {j : Nat} : j ∈ stp h s ↔ j < 8 ∧ (j ∈ s ∨ ∃ k ∈ s, 0 < usesOf h k j) := by
  unfold stp
  rw [List.mem_filter, List.mem_range]
  simp [KINDS]
theorem stp_nodup (h : House) (s : List Nat) : (stp h s).Nodup := List.Pairwise.filter _ (List.nodup_range)
def Cl (h : House) (s : List Nat) : Prop := ∀ x ∈ s, ∀ j, j < 8 → 0 < usesOf h x j → j ∈ s
theorem Cl.stp {h : House} {s : List Nat} (c : Cl h s) : Cl h (stp h s) := by
  intro x hx j hj hu
  have hx' : x ∈ s := by
    rcases (mem_stp.mp hx).2 with q | ⟨k, hk, q⟩
    · exact q
    · exact c k hk x (mem_stp.mp hx).1 q
  exact mem_stp.mpr ⟨hj, .inl (c x hx' j hj hu)⟩
theorem stp_lt {h : House} {s : List Nat} : ∀ x ∈ stp h s, x < 8 := fun _ hx => (mem_stp.mp hx).1
theorem reach_cl {h : House} : ∀ (n : Nat) (s : List Nat), Cl h s → (∀ x ∈ s, x < 8) → Cl h (reach h n s)
  | 0, _, c, _ => c
  | n + 1, s, c, hs => reach_cl n (stp h s) c.stp stp_lt
theorem reach_grow {h : House} : ∀ (n : Nat) (s : List Nat), s.Nodup → (∀ x ∈ s, x < 8) → 8 < n + s.length → Cl h (reach h n s)
  | 0, s, hn, hs, hl => by
    have := nodup_len (m := List.range 8) hn fun x hx => List.mem_range.mpr (hs x hx)
    rw [List.length_range] at this
    omega
  | n + 1, s, hn, hs, hl => by
    show Cl h (reach h n (stp h s))
    by_cases c : ∀ x ∈ stp h s, x ∈ s
    · refine reach_cl n _ (Cl.stp (fun x hx j hj hu => c j (mem_stp.mpr ⟨hj, .inr ⟨x, hx, hu⟩⟩))) stp_lt
    · have c' : ∃ x, x ∈ stp h s ∧ x ∉ s := by
        refine Classical.byContradiction fun z => c fun x hx => Classical.byContradiction fun z2 => z ⟨x, hx, z2⟩
      obtain ⟨x, hx, hx2⟩ := c'
      have hg := nodup_len (l := x :: s) (m := stp h s) (List.nodup_cons.mpr ⟨hx2, hn⟩) fun y hy => by
        rcases List.mem_cons.mp hy with e | hy
        · rw [e]
          exact hx
        · exact mem_stp.mpr ⟨hs y hy, .inl hy⟩
      rw [List.length_cons] at hg
      exact reach_grow n (stp h s) (stp_nodup h s) stp_lt (by omega)
theorem reach_sub {h : House} : ∀ (n : Nat) (s : List Nat), (∀ x ∈ s, x < 8) → ∀ x ∈ s, x ∈ reach h n s
  | 0, _, _, _, hx => hx
  | n + 1, s, hs, x, hx => reach_sub n (stp h s) stp_lt x (mem_stp.mpr ⟨hs x hx, .inl hx⟩)
theorem reach_min {h : House} {C : Nat → Prop} (hC : ∀ x, C x → ∀ j, j < 8 → 0 < usesOf h x j → C j) : ∀ (n : Nat) (s : List Nat), (∀ x ∈ s, C x) → ∀ x ∈ reach h n s, C x
  | 0, _, hs, x, hx => hs x hx
  | n + 1, s, hs, x, hx => reach_min hC n (stp h s) (fun y hy => by
      obtain ⟨h1, h2 | ⟨k, hk, h2⟩⟩ := mem_stp.mp hy
      · exact hs y h2
      · exact hC k (hs k hk) y h1 h2) x hx
theorem reach_form {h : House} : ∀ (n : Nat) (s : List Nat), (reach h (n + 1) s).Pairwise (· < ·) ∧ ∀ x ∈ reach h (n + 1) s, x < 8
  | 0, s => ⟨List.Pairwise.filter _ (List.pairwise_lt_range), stp_lt⟩
  | n + 1, s => reach_form n (stp h s)
section
variable (h : House) {k : Nat}
theorem part_sorted (k : Nat) : (part h k).Pairwise (· < ·) := (reach_form (h := h) 7 [k]).1
theorem part_lt (k : Nat) : ∀ x ∈ part h k, x < 8 := (reach_form (h := h) 7 [k]).2
theorem part_self (hk : k < 8) : k ∈ part h k := reach_sub 8 [k] (fun x hx => by rw [List.mem_singleton.mp hx]; exact hk) k (List.mem_singleton.mpr rfl)
theorem part_cl (hk : k < 8) : Cl h (part h k) := reach_grow 8 [k] (by simp) (fun x hx => by rw [List.mem_singleton.mp hx]; exact hk) (by simp)
theorem part_min {C : Nat → Prop} (h0 : C k) (hC : ∀ x, C x → ∀ j, j < 8 → 0 < usesOf h x j → C j) : ∀ x ∈ part h k, C x := reach_min hC 8 [k] fun x hx => by rw [List.mem_singleton.mp hx]; exact h0
end
theorem part_len (h : House) (k : Nat) : (part h k).length ≤ 8 := by
  have hn : (part h k).Nodup := (part_sorted h k).imp fun {a b} (h : a < b) => Nat.ne_of_lt h
  have := nodup_len (m := List.range 8) hn fun x hx => List.mem_range.mpr (part_lt h k x hx)
  simpa using this
/-- two rising lists with the same members are one -/
theorem rising_eq : ∀ {l m : List Int}, l.Pairwise (· < ·) → m.Pairwise (· < ·) → (∀ x, x ∈ l ↔ x ∈ m) → l = m
  | [], [], _, _, _ => rfl
  | [], b :: m, _, _, h => absurd ((h b).mpr List.mem_cons_self) (by simp)
  | a :: l, [], _, _, h => absurd ((h a).mp List.mem_cons_self) (by simp)
  | a :: l, b :: m, hl, hm, h => by
    obtain ⟨l1, l2⟩ := List.pairwise_cons.mp hl
    obtain ⟨m1, m2⟩ := List.pairwise_cons.mp hm
    have e : a = b := by
      rcases List.mem_cons.mp ((h a).mp List.mem_cons_self) with e | q
      · exact e
      · rcases List.mem_cons.mp ((h b).mpr List.mem_cons_self) with e | q2
        · exact e.symm
        · have := m1 a q
          have := l1 b q2
          omega
    subst e
    rw [rising_eq l2 m2 fun x => ⟨fun hx => ?_, fun hx => ?_⟩]
    · rcases List.mem_cons.mp ((h x).mp (List.mem_cons_of_mem _ hx)) with e | q
      · have := l1 x hx
        omega
      · exact q
    · rcases List.mem_cons.mp ((h x).mpr (List.mem_cons_of_mem _ hx)) with e | q
      · have := m1 x hx
        omega
      · exact q
/-- what the program's walk and sorting give is the specification's part -/
theorem part_eq {h : House} {k : Nat} {ks ns : List Int} (hp : ns.Perm ks) (hs : ns.Pairwise (· ≤ ·)) (hn : ks.Nodup) (h0 : (k : Int) ∈ ks)
    (hcl : ∀ x : Nat, (x : Int) ∈ ks → ∀ j, j < 8 → 0 < usesOf h x j → (j : Int) ∈ ks) (hsub : ∀ z ∈ ks, ∃ x ∈ part h k, z = (x : Int)) : ns = (part h k).map fun (x : Nat) => (x : Int) := by
  refine rising_eq ?_ ?_ fun z => ?_
  · have nd : ns.Nodup := hp.nodup_iff.mpr hn
    exact (hs.and nd).imp fun {a b} ⟨h1, h2⟩ => by
      have : a ≠ b := h2
      omega
  · exact List.pairwise_map.mpr ((part_sorted h k).imp fun {a b} q => by omega)
  · rw [hp.mem_iff]
    refine ⟨fun hz => ?_, fun hz => ?_⟩
    · obtain ⟨x, hx, e⟩ := hsub z hz
      exact List.mem_map.mpr ⟨x, hx, e.symm⟩
    · obtain ⟨x, hx, rfl⟩ := List.mem_map.mp hz
      exact part_min h (C := fun x => (x : Int) ∈ ks) h0 (fun x hx j hj hu => hcl x hx j hj hu) x hx

/-! ### the equations -/
structure MkOk (m : Making) : Prop where
  m1 : 1 ≤ m.makes
  m2 : m.makes ≤ 1000
  o : m.out ≤ 1000000
  ul : m.uses.length = 8
  u : ∀ x ∈ m.uses, x ≤ 1000
structure HouseOk (h : House) : Prop where
  len : h.length = 8
  ok : ∀ k m, making h k = some m → MkOk m
def num (h : House) (k j : Nat) : Int := ((if k = j then makesOf h k else 0 : Nat) : Int) - (usesOf h k j : Int)
theorem number_eq (h : House) (k j : Nat) : number h k j = whole (num h k j) := by
  unfold number num
  generalize (if k = j then makesOf h k else 0) = a
  generalize usesOf h k j = b
  show frac ((a : Int) * ((1 : Nat) : Int) - (b : Int) * ((1 : Nat) : Int)) (1 * 1) = _
  rw [Nat.mul_one, frac_one]
  congr 1
  omega
theorem uses_le {h : House} (H : HouseOk h) (k j : Nat) : usesOf h k j ≤ 1000 := by
  unfold usesOf
  cases e : making h k with
  | none => exact Nat.zero_le _
  | some m =>
    show m.uses.getD j 0 ≤ 1000
    rw [List.getD_eq_getElem?_getD]
    cases e2 : m.uses[j]? with
    | none => exact Nat.zero_le _
    | some x => exact (H.ok k m e).u x (List.mem_of_getElem? e2)
theorem makes_le {h : House} (H : HouseOk h) (k : Nat) : makesOf h k ≤ 1000 := by
  unfold makesOf
  cases e : making h k with
  | none => exact Nat.zero_le _
  | some m => exact (H.ok k m e).m2
theorem out_le {h : House} (H : HouseOk h) (k : Nat) : outOf h k ≤ 1000000 := by
  unfold outOf
  cases e : making h k with
  | none => exact Nat.zero_le _
  | some m => exact (H.ok k m e).o
theorem num_bd {h : House} (H : HouseOk h) (k j : Nat) : (num h k j).natAbs < 2 ^ (11 * 2 ^ 0 - 1) := by
  have h1 := uses_le H k j
  have h2 := makes_le H k
  unfold num
  show _ < 1024
  split <;> omega
theorem num_off (h : House) {k j : Nat} (hne : k ≠ j) : num h k j ≤ 0 := by
  unfold num
  rw [if_neg hne]
  omega
def mxT (h : House) (s : List Nat) : Mx := fun i j => if j < s.length then num h (s.getD i 0) (s.getD j 0) else (outOf h (s.getD i 0) : Int)
def mxR (h : House) (s : List Nat) (k n : Nat) : Mx := fun i j => if j < s.length then num h (s.getD j 0) (s.getD i 0) else ((if s.getD i 0 = k then n else 0 : Nat) : Int)
theorem map_range {α : Type} (s : List Nat) (f : Nat → α) : s.map f = (List.range s.length).map fun i => f (s.getD i 0) := by
  refine List.ext_getElem? fun i => ?_
  rw [List.getElem?_map, List.getElem?_map]
  by_cases hi : i < s.length
  · rw [List.getElem?_range hi, List.getElem?_eq_getElem hi]
    show some (f s[i]) = some (f (s.getD i 0))
    rw [List.getD_eq_getElem?_getD, List.getElem?_eq_getElem hi]
    rfl
  · rw [List.getElem?_eq_none (by omega), List.getElem?_eq_none (by simp; omega)]
    rfl
theorem row_mat {n : Nat} {f : Nat → Int} {b : Int} : ((List.range n).map f) ++ [b] = (List.range (n + 1)).map fun j => if j < n then f j else b := by
  rw [List.range_succ, List.map_append, List.map_singleton, if_neg (Nat.lt_irrefl _)]
  congr 1
  refine List.map_congr_left fun j hj => ?_
  rw [if_pos (List.mem_range.mp hj)]
def rowsT (h : House) (s : List Nat) : List (List Int) := s.map fun k => (s.map fun j => num h k j) ++ [(outOf h k : Int)]
def rowsR (h : House) (s : List Nat) (k n : Nat) : List (List Int) := s.map fun j => (s.map fun i => num h i j) ++ [((if j = k then n else 0 : Nat) : Int)]
theorem rowsT_mat (h : House) (s : List Nat) : rowsT h s = mat s.length (mxT h s) := by
  unfold rowsT mat mxT
  rw [map_range s fun k => (s.map fun j => num h k j) ++ [(outOf h k : Int)]]
  refine List.map_congr_left fun i _ => ?_
  rw [map_range s fun j => num h (s.getD i 0) j]
  exact row_mat
theorem rowsR_mat (h : House) (s : List Nat) (k n : Nat) : rowsR h s k n = mat s.length (mxR h s k n) := by
  unfold rowsR mat mxR
  rw [map_range s fun j => (s.map fun i => num h i j) ++ [((if j = k then n else 0 : Nat) : Int)]]
  refine List.map_congr_left fun i _ => ?_
  rw [map_range s fun i' => num h i' (s.getD i 0)]
  exact row_mat
theorem tookRows_eq (h : House) (s : List Nat) : tookRows h s = matQ s.length (mxT h s) := by
  unfold matQ
  rw [← rowsT_mat]
  unfold tookRows rowsT
  rw [List.map_map]
  refine List.map_congr_left fun k _ => ?_
  show _ = ((s.map fun j => num h k j) ++ [(outOf h k : Int)]).map whole
  rw [List.map_append, List.map_map]
  congr 1
  refine List.map_congr_left fun j _ => number_eq h k j
theorem runRows_eq (h : House) (s : List Nat) (k n : Nat) : runRows h s k n = matQ s.length (mxR h s k n) := by
  unfold matQ
  rw [← rowsR_mat]
  unfold runRows rowsR
  rw [List.map_map]
  refine List.map_congr_left fun j _ => ?_
  show _ = ((s.map fun i => num h i j) ++ [((if j = k then n else 0 : Nat) : Int)]).map whole
  rw [List.map_append, List.map_map]
  congr 1
  refine List.map_congr_left fun i _ => number_eq h i j
theorem getD_ne {s : List Nat} (hs : s.Pairwise (· < ·)) {i j : Nat} (hi : i < s.length) (hj : j < s.length) (hne : i ≠ j) : s.getD i 0 ≠ s.getD j 0 := by
  rw [List.getD_eq_getElem?_getD, List.getD_eq_getElem?_getD, List.getElem?_eq_getElem hi, List.getElem?_eq_getElem hj]
  show s[i] ≠ s[j]
  have hp := List.pairwise_iff_getElem.mp hs
  rcases Nat.lt_or_gt_of_ne hne with q | q
  · have := hp i j hi hj q
    omega
  · have := hp j i hj hi q
    omega
theorem sgT (h : House) {s : List Nat} (hs : s.Pairwise (· < ·)) : Sg s.length (mxT h s) := by
  constructor
  · intro i j hi hj hne
    unfold mxT
    rw [if_pos hj]
    exact num_off h (getD_ne hs hi hj hne)
  · intro i hi
    unfold mxT
    rw [if_neg (Nat.lt_irrefl _)]
    omega
theorem sgR (h : House) {s : List Nat} (k n : Nat) (hs : s.Pairwise (· < ·)) : Sg s.length (mxR h s k n) := by
  constructor
  · intro i j hi hj hne
    unfold mxR
    rw [if_pos hj]
    exact num_off h (getD_ne hs hj hi fun z => hne z.symm)
  · intro i hi
    unfold mxR
    rw [if_neg (Nat.lt_irrefl _)]
    omega
theorem bdT {h : House} (H : HouseOk h) (s : List Nat) : Bd s.length 0 (mxT h s) := by
  constructor
  · intro i j hi hj
    unfold mxT
    rw [if_pos hj]
    exact num_bd H _ _
  · intro i hi
    unfold mxT
    rw [if_neg (Nat.lt_irrefl _)]
    have := out_le H (s.getD i 0)
    show _ < 1048576
    omega
theorem bdR {h : House} (H : HouseOk h) (s : List Nat) (k : Nat) {n : Nat} (hn : n ≤ 1000000) : Bd s.length 0 (mxR h s k n) := by
  constructor
  · intro i j hi hj
    unfold mxR
    rw [if_pos hj]
    exact num_bd H _ _
  · intro i hi
    unfold mxR
    rw [if_neg (Nat.lt_irrefl _)]
    show _ < 1048576
    split <;> omega
/-! ### what is told -/
theorem zip_find {s : List Nat} {xs : List Q} {k j : Nat} {q : Q} (hs : s[j]? = some k) (hx : xs[j]? = some q) (hno : ∀ m, m < j → s[m]? ≠ some k) :
    ((s.zip xs).findSome? fun x => if x.1 = k then some x.2 else none) = some q := by
  induction s generalizing xs j with
  | nil => simp at hs
  | cons a s ih =>
    cases xs with
    | nil => simp at hx
    | cons y xs =>
      cases j with
      | zero =>
        simp at hs hx
        subst hs hx
        simp
      | succ j =>
        have hne : ¬ a = k := fun e => hno 0 (by omega) (by simp [e])
        rw [List.zip_cons_cons, List.findSome?_cons]
        simp only [if_neg hne]
        exact ih (by simpa using hs) (by simpa using hx) fun m hm => by
          have := hno (m + 1) (by omega)
          simpa using this
/-- the program's step of the sum -/
def totS (h : House) (a : Q) (x : Nat × Q) : Q := frac (a.top * (x.2.bottom : Int) + (outOf h x.1 : Int) * x.2.top * (a.bottom : Int)) (a.bottom * x.2.bottom)
theorem totS_eq {h : House} {a : Q} {x : Nat × Q} (ha : Nm a) (hx : Nm x.2) : totS h a x = plus a (times x.2 (nat (outOf h x.1))) := by
  have ho : Nm (nat (outOf h x.1)) := whole_nm _
  refine (frac_nm _ (Nat.mul_pos ha.pos hx.pos)).eq (plus_nm ha (times_nm hx ho)) ?_
  rw [val_frac _ (Nat.mul_pos ha.pos hx.pos), val_plus ha (times_nm hx ho), val_times hx ho, val_div a, val_div x.2]
  have e : val (nat (outOf h x.1)) = ((outOf h x.1 : Int) : Rat) := val_whole _
  rw [e]
  have n1 := cast_ne ha.pos
  have n2 := cast_ne hx.pos
  simp only [Rat.intCast_mul, Rat.intCast_add, Rat.intCast_natCast, Rat.natCast_mul]
  grind
theorem totS_nm {h : House} {a : Q} {x : Nat × Q} (ha : Nm a) (hx : Nm x.2) : Nm (totS h a x) := frac_nm _ (Nat.mul_pos ha.pos hx.pos)
theorem totS_nn {h : House} {a : Q} {x : Nat × Q} (ha : Nm a) (hx : Nm x.2) (na : 0 ≤ a.top) (nx : 0 ≤ x.2.top) : 0 ≤ (totS h a x).top := by
  refine frac_nn ?_ (Nat.mul_pos ha.pos hx.pos)
  have h1 : 0 ≤ a.top * (x.2.bottom : Int) := Int.mul_nonneg na (by omega)
  have h2 : 0 ≤ (outOf h x.1 : Int) * x.2.top * (a.bottom : Int) := Int.mul_nonneg (Int.mul_nonneg (by omega) nx) (by omega)
  omega
theorem letOut_eq {h : House} : ∀ (l : List (Nat × Q)) (a : Q), Nm a → (∀ x ∈ l, Nm x.2) → l.foldl (totS h) a = l.foldl (fun (a : Q) (x : Nat × Q) => plus a (times x.2 (nat (outOf h x.1)))) a ∧ Nm (l.foldl (totS h) a)
  | [], a, ha, _ => ⟨rfl, ha⟩
  | x :: l, a, ha, hl => by
    have hx := hl x List.mem_cons_self
    have hs := totS_nm (h := h) ha hx
    obtain ⟨i1, i2⟩ := letOut_eq l (totS h a x) hs fun y hy => hl y (List.mem_cons_of_mem _ hy)
    refine ⟨?_, i2⟩
    rw [List.foldl_cons, List.foldl_cons, i1, totS_eq ha hx]
theorem letOut_nn {h : House} : ∀ (l : List (Nat × Q)) (a : Q), Nm a → 0 ≤ a.top → (∀ x ∈ l, Nm x.2 ∧ 0 ≤ x.2.top) → 0 ≤ (l.foldl (totS h) a).top
  | [], a, _, na, _ => na
  | x :: l, a, ha, na, hl => by
    have hx := hl x List.mem_cons_self
    exact letOut_nn l (totS h a x) (totS_nm ha hx.1) (totS_nn ha hx.1 na hx.2) fun y hy => hl y (List.mem_cons_of_mem _ hy)
/-! ### sizes -/
theorem tot_gcd {A o p : Int} {B q : Nat} (hc : Nat.Coprime A.natAbs B) (hq : 0 < q) : Nat.gcd (A * (q : Int) + o * p * (B : Int)).natAbs (B * q) ≤ q * q := by
  have h1 : ((Nat.gcd (A * (q : Int) + o * p * (B : Int)).natAbs (B * q) : Nat) : Int) ∣ A * (q : Int) + o * p * (B : Int) := Int.ofNat_dvd_left.mpr (Nat.gcd_dvd_left _ _)
  have h2 : Nat.gcd (A * (q : Int) + o * p * (B : Int)).natAbs (B * q) ∣ B * q := Nat.gcd_dvd_right _ _
  generalize Nat.gcd (A * (q : Int) + o * p * (B : Int)).natAbs (B * q) = g at h1 h2 ⊢
  have h3 : g ∣ B * (q * q) := by
    rw [← Nat.mul_assoc]
    exact Nat.dvd_mul_right_of_dvd h2 q
  have h4 : (g : Int) ∣ A * ((q * q : Nat) : Int) := by
    have e : A * ((q * q : Nat) : Int) = (A * (q : Int) + o * p * (B : Int)) * (q : Int) - o * p * ((B * q : Nat) : Int) := by
      rw [Int.natCast_mul, Int.natCast_mul]
      grind
    rw [e]
    exact Int.dvd_sub (Int.dvd_mul_of_dvd_left h1) (Int.dvd_mul_of_dvd_right (Int.natCast_dvd_natCast.mpr h2))
  have h5 : g ∣ A.natAbs * (q * q) := by
    have := Int.ofNat_dvd_left.mp h4
    rw [Int.natAbs_mul, Int.natAbs_natCast] at this
    exact this
  have h6 : g ∣ Nat.gcd (A.natAbs * (q * q)) (B * (q * q)) := Nat.dvd_gcd h5 h3
  rw [Nat.gcd_mul_right, hc.gcd_eq_one, Nat.one_mul] at h6
  exact Nat.le_of_dvd (Nat.mul_pos hq hq) h6
theorem frac_bottom (p : Int) {q : Nat} (h : 0 < q) : (frac p q).bottom ≤ q := by
  rw [frac_eq p h]
  exact Nat.div_le_self _ _
theorem frac_top (p : Int) {q : Nat} (h : 0 < q) : (frac p q).top.natAbs ≤ p.natAbs := by
  rw [frac_eq p h]
  show (p / (Nat.gcd p.natAbs q : Int)).natAbs ≤ _
  rw [natAbs_div_gcd]
  exact Nat.div_le_self _ _
theorem pow_le8 {n : Nat} (h : n ≤ 8) : 2 ^ n ≤ 256 := Nat.pow_le_pow_right (by decide) h
theorem found_sz {n : Nat} {a : Mx} (hn : n ≤ 8) (h : Good n a) (b : Bd n 0 a) : ∀ q ∈ found n a, q.bottom < 2 ^ 2815 ∧ q.top.natAbs < 2 ^ 2825 := by
  have hO := off_it (a := a) n (Nat.le_refl _) h
  have hb := bd_it b n (Nat.le_refl _)
  have hp := pow_le8 hn
  intro q hq
  obtain ⟨i, hi, rfl⟩ := List.mem_map.mp hq
  have hi := List.mem_range.mp hi
  have h0 := hO.p i hi
  have h1 := hb.c i i hi hi
  have h2 := hb.b i hi
  have h3 : 0 < (itF a n i i).toNat := by omega
  refine ⟨?_, ?_⟩
  · refine Nat.lt_of_le_of_lt (frac_bottom _ h3) (Nat.lt_of_lt_of_le (m := 2 ^ (11 * 2 ^ n - 1)) (by omega) (Nat.pow_le_pow_right (by decide) (by omega)))
  · exact Nat.lt_of_le_of_lt (frac_top _ h3) (Nat.lt_of_lt_of_le h2 (Nat.pow_le_pow_right (by decide) (by omega)))
/-- the running sum's sizes -/
def TSz (j : Nat) (a : Q) : Prop := a.bottom < 2 ^ (3000 * j + 1) ∧ a.top.natAbs < 2 ^ (3000 * j + 1)
theorem tot_sz {h : House} (H : HouseOk h) {j : Nat} {a : Q} {x : Nat × Q} (ha : Nm a) (hx : Nm x.2) (hb : x.2.bottom < 2 ^ 2815) (ht : x.2.top.natAbs < 2 ^ 2825) (sz : TSz j a) : TSz (j + 1) (totS h a x) := by
  obtain ⟨s1, s2⟩ := sz
  have hp := Nat.mul_pos ha.pos hx.pos
  have ho := out_le H x.1
  refine ⟨Nat.lt_of_le_of_lt (frac_bottom _ hp) ?_, Nat.lt_of_le_of_lt (frac_top _ hp) ?_⟩
  · have := Nat.mul_lt_mul_of_lt_of_lt s1 hb
    rw [← Nat.pow_add] at this
    exact Nat.lt_of_lt_of_le this (Nat.pow_le_pow_right (by decide) (by omega))
  · have h1 : (a.top * (x.2.bottom : Int)).natAbs < 2 ^ (3000 * j + 1 + 2815) := by
      rw [Int.natAbs_mul, Int.natAbs_natCast, Nat.pow_add]
      exact Nat.mul_lt_mul_of_lt_of_lt s2 hb
    have h2 : ((outOf h x.1 : Int) * x.2.top * (a.bottom : Int)).natAbs < 2 ^ (20 + 2825 + (3000 * j + 1)) := by
      rw [Int.natAbs_mul, Int.natAbs_mul, Int.natAbs_natCast, Int.natAbs_natCast, Nat.pow_add, Nat.pow_add]
      refine Nat.mul_lt_mul_of_lt_of_lt (Nat.mul_lt_mul_of_lt_of_lt ?_ ht) s1
      show _ < 1048576
      omega
    have h3 : 2 ^ (3000 * j + 1 + 2815) ≤ 2 ^ (3000 * (j + 1)) := Nat.pow_le_pow_right (by decide) (by omega)
    have h4 : 2 ^ (20 + 2825 + (3000 * j + 1)) ≤ 2 ^ (3000 * (j + 1)) := Nat.pow_le_pow_right (by decide) (by omega)
    rw [Nat.pow_succ]
    generalize 2 ^ (3000 * j + 1 + 2815) = u1 at *
    generalize 2 ^ (20 + 2825 + (3000 * j + 1)) = u2 at *
    generalize 2 ^ (3000 * (j + 1)) = u3 at *
    omega
theorem small_iff {a : Q} (na : 0 ≤ a.top) : small a = true ↔ a.top < 4611686018427387904 ∧ (a.bottom : Int) < 4611686018427387904 := by
  unfold small
  rw [Bool.and_eq_true, decide_eq_true_iff, decide_eq_true_iff]
  show a.top.natAbs < 4611686018427387904 ∧ a.bottom < 4611686018427387904 ↔ _
  omega
end Pm
end
section
set_option Elab.async false
set_option linter.all false
set_option maxRecDepth 100000
namespace Ru
open PySem PySem.Spec PyProof.Rows L2
section
variable {X : Cx}
/-! ### products and quotients of great numbers -/
def CMulB (i j : Int) : Prop := ∃ m n : Nat, i.natAbs < 2 ^ m ∧ j.natAbs < 2 ^ n ∧ m + n ≤ 134217728
theorem op_mulB : OpR X (binaryOp .Mult) (rI CMulB fun i j => .int (i * j)) := opI fun _ _ _ _ _ _ _ hc q => by
  obtain ⟨m, n, h1, h2, h3⟩ := hc
  exact mul_int q (IntMulOk.of_le (intBits_le_iff.mpr h1) (intBits_le_iff.mpr h2) h3)
def CDivB (i j : Int) : Prop := 0 < j ∧ j.natAbs < 2 ^ 9000
theorem log_lt {n k : Nat} (hk : 0 < k) (h : n < 2 ^ k) : n.log2 < k := by
  by_cases h0 : n = 0
  · rw [h0, Nat.log2_zero]
    exact hk
  · exact (Nat.log2_lt h0).mpr h
theorem op_fdivB : OpR X (binaryOp .FloorDiv) (rI CDivB fun i j => .int (i / j)) := opI fun i j _ _ _ _ _ hc q => by
  have h1 : (0 : Int) < j := hc.1
  exact floordiv_int (by omega) (by rw [Int.fdiv_eq_ediv_of_nonneg i (by omega)]; exact q) (.inl (PyProof.noPylong_of_log2 (log_lt (by decide) hc.2)))
/-! ### max of a tuple of ints -/
theorem max_rawT {prog : Program} {w : World} {A : Around} {E : Value → Shared → Prop} {s : Shared} {l : Addr} {its : List Value} {ns : List Int} {Q : Value → Shared → Prop} (hh : A.handled = none) (hl : s.heap.IsTuple l its.toArray) (hi : IntsAre its ns) (hne : 0 < ns.length)
    (h : ∀ h' tk M t', (∀ b o, s.heap.get? b = some o → h'.get? b = some o) → M ∈ ns → (∀ a, a ∈ ns → a ≤ M) → Q (.int M t') { s with heap := h', toks := tk }) : wpAny (model prog w) A (call (.builtin "max") [.ref l]) Q E s := by
  obtain ⟨xs, e⟩ := hi.allInts.items
  have hn : numsOf (intItems xs).toList = ns := by rw [← e]; exact hi.numsOf
  rw [nums_intItems] at hn
  subst hn
  rw [e] at hl
  have hsz : 0 < xs.size := by simpa using hne
  have hlt : l < s.heap.objs.size := let ⟨_, e, _⟩ := hl; Heap.lt_size e
  refine call_max_walk (wpAny_pyIter_tuple hl ⟨_, _, _, _, _, _, _, rfl, Walks.tuple (A := A.in1) hh _ l (Nat.ne_of_lt hlt) (intItems xs), ⟨⟨_, Heap.get?_push_size _ rfl, rfl, rfl⟩, hl.push _⟩, fun b hb => ?_, by simpa [intItems] using hsz, CmpOf.ints_gt (numAt xs) (fun _ _ => intItems_at), fun v h' tk hP hk => ?_⟩)
  · show b < (s.heap.push _).objs.size
    rw [Heap.size_push]
    rcases List.mem_cons.mp hb with e | hb
    · rw [e]; exact Nat.lt_succ_self _
    · rw [List.mem_singleton.mp hb]; exact Nat.lt_succ_of_lt hlt
  · have hP' : (intItems xs)[argBest (fun i j => decide (numAt xs i > numAt xs j)) (xs.size - 1)]? = some v := by simpa [intItems] using hP
    obtain ⟨t, rfl⟩ := intItems_at hP'
    obtain ⟨h1, h2⟩ := argBest_gt (numAt xs) (xs.size - 1)
    refine h h' tk _ t (fun b o e => hk b o (fun hm => absurd (List.mem_singleton.mp hm ▸ Heap.lt_size e) (Nat.lt_irrefl _)) (Heap.get?_push_of_some _ e)) ?_ fun a ha => ?_
    · rw [numAt_eq]; exact PySem.getD_mem (by rw [List.length_map, Array.length_toList]; omega)
    · obtain ⟨j, hj, rfl⟩ := mem_getD ha
      rw [List.length_map, Array.length_toList] at hj
      rw [← numAt_eq]; exact h2 j (by omega)
def rMaxT (K : PySem.W.Frag) : List V → Hp → VK → Prop := fun vs H Q => ∃ (a : Addr) (ns : List Int), vs = [V.ref a] ∧ SqT K H a (ns.map V.int) ∧ 0 < ns.length ∧ ∀ m, m ∈ ns → (∀ y, y ∈ ns → y ≤ m) → Q (.int m) H
theorem cr_maxT (hc : X.calm = true) : CallR X (.builtin "max") (rMaxT X.K) := by
  intro pins s σ H vs us Q I r h
  obtain ⟨a, ns, rfl, hs, hne, q⟩ := h
  obtain ⟨its, rv, hl, _⟩ := I.tuple hs
  rw [Vals.ref1 r]
  exact max_rawT (I.ok.hd hc) hl rv.ints hne fun h' tk m t' hk h1 h2 => ⟨.int _, H, I.kept hk, ⟨_, rfl⟩, q m h1 h2⟩
/-! ### sorted of a dict whose keys are ints -/
def rSortedD : List V → Hp → VK → Prop := fun vs H Q => ∃ (a : Addr) (kvs : List (Key × V)) (ns : List Int), vs = [V.ref a] ∧ H a = some (.dK kvs) ∧ kvs.map (·.1) = ns.map Sum.inl ∧ ns.length < 64 ∧
  ∀ (ns' : List Int) (p : Addr), ns'.Perm ns → ns'.Pairwise (· ≤ ·) → H p = none → Q (.ref p) (upd H p (.lst (ns'.map V.int)))
theorem keys_ints {kvs : List (Key × V)} {vs : List (Key × Value)} {ns : List Int} (rel : KV kvs vs) (hk : kvs.map (·.1) = ns.map Sum.inl) {P : Program} {w : World} {acc : List Value} (hl : acc.length = vs.length)
    (h : ∀ (j : Nat) (v : Value), acc[j]? = some v → ∃ k x, vs[j]? = some (k, x) ∧ (mixKind P w).is k v = true) : IntsAre acc ns := by
  induction rel generalizing ns acc with
  | nil =>
    have e : acc = [] := List.length_eq_zero_iff.mp hl
    have e2 : ns = [] := by
      cases ns with
      | nil => rfl
      | cons _ _ => cases hk
    subst e e2
    exact .nil
  | @cons p q ps qs hpq t ih =>
    cases ns with
    | nil => cases hk
    | cons n ns =>
      cases acc with
      | nil => cases hl
      | cons u acc =>
        have hk1 : p.1 = Sum.inl n := (List.cons.inj hk).1
        have hk2 : ps.map (·.1) = ns.map Sum.inl := (List.cons.inj hk).2
        obtain ⟨k, x, e, hi⟩ := h 0 u rfl
        have e' : q = (k, x) := by simpa using e
        subst e'
        have e3 : k = Sum.inl n := by rw [← hk1]; exact hpq.1.symm
        subst e3
        obtain ⟨i, t', e4, e5⟩ | ⟨y, t', e4, _⟩ := keyIs_shape (show keyIs (Sum.inl n) u = true from hi)
        · have e6 : n = i := Sum.inl.inj e4
          subst e6 e5
          exact .cons n t' (ih hk2 (by simpa using hl) fun j v hv => by
            obtain ⟨k, x, e, hi⟩ := h (j + 1) v (by simpa using hv)
            exact ⟨k, x, by simpa using e, hi⟩)
        · cases e4
theorem cr_sortedD (hc : X.calm = true) : CallR X (.builtin "sorted") rSortedD := by
  intro pins s σ H vs us Q I r h
  obtain ⟨a, kvs, ns, rfl, ha, hk, h64, q⟩ := h
  rw [Vals.ref1 r]
  obtain ⟨z, hd, vs, rel, dd⟩ := dk_of I.hok ha
  obtain ⟨ep, hat⟩ := dd.dictAt
  have hlen : vs.length = ns.length := by
    have h1 : kvs.length = vs.length := Paired.length rel
    have h2 := congrArg List.length hk
    rw [List.length_map, List.length_map] at h2
    omega
  refine Calls.call_function_entry kind_sorted plain_sorted entry_sorted (args_sorted1 _) ?_
  unfold Builtin.«sorted»
  refine wpAny_bind (m := checkCount "sorted" 1 1 _) (wpAny_pure ?_)
  refine wpAny_bind (PySem.W.kdu_collect (A := X.A.in1) (PySem.W.kdl_dict (knd := mixKind X.prog X.w) (kvs := vs) (ep := ep) hd) (I.ok.hd hc) hat (by rw [hlen]; exact small64 h64) fun h' tk acc hk' hacc => ?_)
  have hi : IntsAre acc.toList ns := keys_ints (P := X.prog) (w := X.w) rel hk (by rw [Array.length_toList]; exact hacc.1) fun j v e => hacc.2 j v (by rw [← Array.getElem?_toList]; exact e)
  have hal : acc.toList.length = ns.length := hi.length
  refine wpAny_bind (wpAny_newList ?_ (by rw [hal]; exact small64 h64))
  have I1 : Inv X pins σ H { s with heap := h', toks := tk } := I.kept hk'
  have hoL : (h'.push (seqObj "list" acc.toList.toArray 0)).get? h'.objs.size = some (seqObj "list" acc.toList.toArray 0) := Heap.get?_push_size _ rfl
  show wpAny _ _ _ _ _ { s with heap := h'.push (seqObj "list" acc.toList.toArray 0), toks := tk }
  refine wpAny_bind (wpAny_holding (wpAny_call_entry slot_list_sort ⟨_, hoL, rfl⟩ entry_list_sort (list_sort_tree hoL hi (by rw [hal]; exact h64) fun out ns' a1 a2 a3 => ⟨_, rfl, ?_⟩) (args_list_sort _)))
  refine wpAny_pure ⟨_, rfl, ?_⟩
  obtain ⟨ep', he'⟩ := PyProof.Rows.sortedHeap_at (vs := acc.toList) (out := out) hoL
  have hlen' : (ns'.map V.int).length ≤ sizeLine := by rw [List.length_map, a2.length_eq]; exact small64 h64
  refine ⟨.ref h'.objs.size, upd H h'.objs.size (.lst (ns'.map V.int)), I1.laid (t' := tk) (fun b u e => ?_) (Nat.le_refl _) ⟨hlen', out.toList, ep', vals_of_ints a1, he'⟩, rfl, q ns' _ a2 a3 (I1.hok.fresh (Nat.le_refl _))⟩
  have hb : b ≠ h'.objs.size := Nat.ne_of_lt (Heap.lt_size e)
  rw [PyProof.Rows.sortedHeap_old hb (Heap.lt_size (Heap.get?_push_of_some _ e))]
  exact Heap.get?_push_of_some _ e
/-! ### zip: the forms one uses -/
theorem for_zip {K : PySem.W.Frag} {a b : Addr} {xs ys : List V} {g : TG} {tb : TS} {D : Ends} {σ : L2.St} {H : Hp} (hlen : xs.length = ys.length) (Pv : Nat → L2.St → Hp → Prop) (h0 : Pv 0 σ H) (hl : ∀ i σ H, i ≤ xs.length → Pv i σ H → SqL K H a xs ∧ SqL K H b ys)
    (hs : ∀ i x y T σ H, xs[i]? = some x → ys[i]? = some y → H T = none → Pv i σ H → g (.ref T) σ (upd H T (.tup [x, y])) fun σ2 H2 => tb { D with nx := Pv (i + 1), ct := Pv (i + 1), bk := D.nx } σ2 H2) (hd : ∀ σ H, Pv xs.length σ H → D.nx σ H) :
    ∃ W : Nat → Nat → L2.St → Hp → Prop, (∃ m, W 0 m σ H) ∧ ∀ i m σ H, W i m σ H →
      ((Itz K a b).stop i H ∧ D.nx σ H) ∨ ((Itz K a b).go i H ∧ ∃ N : L2.St → Hp → Prop, (∀ σ' H', N σ' H' → ∃ m', m' < m ∧ W (i + 1) m' σ' H') ∧ ∀ x H', (Itz K a b).yld i H x H' → g x σ H' fun σ2 H2 => tb { D with nx := N, ct := N, bk := D.nx } σ2 H2) := by
  refine ⟨fun i m σ H => m = xs.length - i ∧ i ≤ xs.length ∧ Pv i σ H, ⟨xs.length, by simp, Nat.zero_le _, h0⟩, ?_⟩
  rintro i m σ H ⟨rfl, hi, p⟩
  obtain ⟨q1, q2⟩ := hl i σ H hi p
  by_cases hlt : i < xs.length
  · refine .inr ⟨⟨xs, ys, xs[i], ys[i]'(by omega), q1, q2, by simp [hlt], by simp [show i < ys.length by omega]⟩, Pv (i + 1), fun σ' H' p' => ⟨xs.length - (i + 1), by omega, rfl, hlt, p'⟩, fun x H' y => ?_⟩
    obtain ⟨T, u, v, e1, e2, e3, y1, y2⟩ := y
    subst e1 e3
    exact hs i u v T σ H (y1 xs q1) (y2 ys q2) e2 p
  · have e : i = xs.length := by omega
    subst e
    exact .inl ⟨⟨xs, ys, q1, q2, .inl (Nat.le_refl _)⟩, hd σ H p⟩
theorem lc_zip {K : PySem.W.Frag} {a b : Addr} {xs ys : List V} {g : TG} {tt : TT} {te : TE} {vs : List Nat} {σ : L2.St} {H1 : Hp} {D : Addr} {Qd : Hp → Prop} (hlen : xs.length = ys.length) (Pv : Nat → Hp → Prop) (h0 : Pv 0 (upd H1 D (.lst []))) (hl : ∀ i H, i ≤ xs.length → Pv i H → SqL K H a xs ∧ SqL K H b ys)
    (hs : ∀ i x y T H, xs[i]? = some x → ys[i]? = some y → H T = none → Pv i H → g (.ref T) (wipe σ vs) (upd H T (.tup [x, y])) fun σ2 H2 => wipe σ2 vs = wipe σ vs ∧ tt σ2 H2 fun b H3 =>
      if b = true then te σ2 H3 fun y H4 => ∃ acc, H4 D = some (.lst acc) ∧ acc.length < sizeLine ∧ Pv (i + 1) (upd H4 D (.lst (acc ++ [y]))) else Pv (i + 1) H3) (hd : ∀ H, Pv xs.length H → Qd H) :
    ∃ W : Nat → Nat → Hp → Prop, (∃ m, W 0 m (upd H1 D (.lst []))) ∧ ∀ i m H, W i m H →
      ((Itz K a b).stop i H ∧ Qd H) ∨ ((Itz K a b).go i H ∧ ∃ Nx : Hp → Prop, (∀ H', Nx H' → ∃ m', m' < m ∧ W (i + 1) m' H') ∧ ∀ x H', (Itz K a b).yld i H x H' → g x (wipe σ vs) H' fun σ2 H2 => wipe σ2 vs = wipe σ vs ∧ tt σ2 H2 fun b H3 =>
        if b = true then te σ2 H3 fun y H4 => ∃ acc, H4 D = some (.lst acc) ∧ acc.length < sizeLine ∧ Nx (upd H4 D (.lst (acc ++ [y]))) else Nx H3) := by
  refine ⟨fun i m H => m = xs.length - i ∧ i ≤ xs.length ∧ Pv i H, ⟨xs.length, by simp, Nat.zero_le _, h0⟩, ?_⟩
  rintro i m H ⟨rfl, hi, p⟩
  obtain ⟨q1, q2⟩ := hl i H hi p
  by_cases hlt : i < xs.length
  · refine .inr ⟨⟨xs, ys, xs[i], ys[i]'(by omega), q1, q2, by simp [hlt], by simp [show i < ys.length by omega]⟩, Pv (i + 1), fun H' p' => ⟨xs.length - (i + 1), by omega, rfl, hlt, p'⟩, fun x H' y => ?_⟩
    obtain ⟨T, u, v, e1, e2, e3, y1, y2⟩ := y
    subst e1 e3
    exact hs i u v T H (y1 xs q1) (y2 ys q2) e2 p
  · have e : i = xs.length := by omega
    subst e
    exact .inl ⟨⟨xs, ys, q1, q2, .inl (Nat.le_refl _)⟩, hd H p⟩
/-! ### a dict of the module, ints to ints -/
def entOk (e : DictEntry) (k v : Int) : Bool := (match e.key with | .int i _ => i == k | _ => false) && (match e.val with | .int j _ => j == v | _ => false) && (e.hash == hashInt k)
def tabOk : List DictEntry → List (Int × Int) → Bool
  | [], [] => true
  | e :: es, (k, v) :: D => entOk e k v && tabOk es D
  | _, _ => false
def tabVs : List DictEntry → List (Int × Int) → List (Key × Value)
  | e :: es, (k, _) :: D => (Sum.inl k, e.val) :: tabVs es D
  | _, _ => []
theorem entOk_of {e : DictEntry} {k v : Int} (h : entOk e k v = true) : keyIs (.inl k) e.key = true ∧ (∃ t, e.val = .int v t) ∧ e.hash = hashInt k := by
  unfold entOk at h
  rw [Bool.and_eq_true, Bool.and_eq_true] at h
  obtain ⟨⟨h1, h2⟩, h3⟩ := h
  refine ⟨?_, ?_, eq_of_beq h3⟩
  · split at h1
    · rename_i i t e1
      rw [e1, ← eq_of_beq h1]
      exact keyIs_int _ _
    · cases h1
  · split at h2
    · rename_i i t e1
      exact ⟨t, by rw [e1, ← eq_of_beq h2]⟩
    · cases h2
theorem tab_pairs {P : Program} {w : World} : ∀ {es : List DictEntry} {D : List (Int × Int)}, tabOk es D = true → Pairs (mixKind P w) es (tabVs es D) ∧ (∀ e ∈ es, ∃ k, (mixKind P w).is k e.key = true ∧ e.hash = (mixKind P w).hash k) ∧ (tabVs es D).map (·.1) = D.map fun p => Sum.inl p.1
  | [], [], _ => ⟨.nil, (fun _ h => by cases h), rfl⟩
  | [], _ :: _, h => by cases h
  | _ :: _, [], h => by cases h
  | e :: es, (k, v) :: D, h => by
    have h' : (entOk e k v && tabOk es D) = true := h
    rw [Bool.and_eq_true] at h'
    obtain ⟨i1, i2, i3⟩ := tab_pairs (P := P) (w := w) h'.2
    obtain ⟨a1, a2, a3⟩ := entOk_of h'.1
    refine ⟨.cons a1 rfl i1, fun e' he => ?_, congrArg (Sum.inl k :: ·) i3⟩
    rcases List.mem_cons.mp he with q | q
    · rw [q]
      exact ⟨.inl k, a1, a3⟩
    · exact i2 e' q
theorem tab_at : ∀ {es : List DictEntry} {D : List (Int × Int)} {k v : Int}, tabOk es D = true → D.lookup k = some v → ∃ t, valueAt (tabVs es D) (Sum.inl k) = some (.int v t)
  | [], [], _, _, _, h => by cases h
  | [], _ :: _, _, _, h, _ => by cases h
  | _ :: _, [], _, _, h, _ => by cases h
  | e :: es, (k', v') :: D, k, v, h, hl => by
    have h' : (entOk e k' v' && tabOk es D) = true := h
    rw [Bool.and_eq_true] at h'
    obtain ⟨a1, ⟨t, a2⟩, a3⟩ := entOk_of h'.1
    by_cases q : k = k'
    · subst q
      have e1 : v' = v := by simpa [List.lookup] using hl
      subst e1
      refine ⟨t, ?_⟩
      simp [valueAt, tabVs, a2]
    · have hl' : D.lookup k = some v := by
        have : (k == k') = false := beq_eq_false_iff_ne.mpr q
        simpa [List.lookup, this] using hl
      obtain ⟨t', i⟩ := tab_at h'.2 hl'
      refine ⟨t', ?_⟩
      have n : ¬ (Sum.inl k' : Key) = Sum.inl k := fun z => q (Sum.inl.inj z).symm
      simpa [valueAt, tabVs, List.find?_cons, n] using i
structure Tab (K : PySem.W.Frag) (d : Addr) (D : List (Int × Int)) : Prop where
  ex : ∃ es ep, K.lookup d = some ⟨.type "dict", none, .dict es ep, #[]⟩ ∧ tabOk es.toList D = true
  nd : (D.map (·.1)).Nodup
theorem Tab.dict {K : PySem.W.Frag} {d : Addr} {D : List (Int × Int)} (T : Tab K d D) {P : Program} {w : World} {h : Heap} (X : K.In h) : ∃ vs, h.DictOf (mixKind P w) d vs ∧ ∀ k v, D.lookup k = some v → ∃ t, valueAt vs (Sum.inl k) = some (.int v t) := by
  obtain ⟨es, ep, lk, ok⟩ := T.ex
  obtain ⟨i1, i2, i3⟩ := tab_pairs (P := P) (w := w) ok
  refine ⟨tabVs es.toList D, ⟨_, es, ep, X _ _ lk, ⟨rfl, rfl, rfl⟩, rfl, fun e he => i2 e (Array.mem_toList_iff.mpr he), i1, ?_⟩, fun k v hl => tab_at ok hl⟩
  rw [i3]
  have := T.nd
  have e : D.map (fun p => (Sum.inl p.1 : Key)) = (D.map (·.1)).map Sum.inl := by rw [List.map_map]; rfl
  rw [e]
  exact List.pairwise_map.mpr (this.imp fun {a b} h z => h (Sum.inl.inj z))
def tTab (d : Addr) (D : List (Int × Int)) (td ty : TE) : TE := fun σ H Q => td σ H fun x H1 => ty σ H1 fun y H2 => ∃ k v, x = .ref d ∧ y = .int k ∧ D.lookup k = some v ∧ Q (.int v) H2
theorem pe_tab {d : Addr} {D : List (Int × Int)} {o i : Expr} {td ty : TE} {pos : Pos} (T : Tab X.K d D) (ho : PE X o td) (hi : PE X i ty) (hs : NoSl i) : PE X (.Subscript o i pos) (tTab d D td ty) := by
  intro pins s σ H Q I h
  refine subD_of PySem.F.slot_dict_getitem.lookup hs (thn (ho pins s σ H _ I h) fun u s1 ⟨x, H1, I1, rx, q1⟩ => thn (hi pins s1 σ H1 _ I1 q1) fun iv s2 ⟨y, H2, I2, ry, k, v, ex, ey, hl, q2⟩ => ?_)
  subst ex ey
  obtain rfl : u = Value.ref d := rx
  obtain ⟨t, rfl⟩ := ry
  obtain ⟨vs, dd, hv⟩ := T.dict (P := X.prog) (w := X.w) I2.kIn
  obtain ⟨t', hv'⟩ := hv k v hl
  exact ⟨dd.typeIs, wpAny_getItem_of (mixKind_int _ _ k t) dd.mapOf hv' ⟨.int v, H2, I2.tok _, ⟨t', rfl⟩, q2⟩⟩
end
end Ru
end
section
set_option Elab.async false
set_option linter.all false
set_option maxRecDepth 100000
set_option maxHeartbeats 2000000
namespace Pt
open PySem PySem.Spec PyProof.Rows L2 Ru Pm
open Kp193 (Q House Making making usesOf makesOf outOf part frac)
/-! ### the text by places -/
def top (i : Nat) : Stmt := PySem.Challenge.pw_piecetook_s01_answers.main.body.getD i (.Pass ⟨0, 0, 0, 0⟩)
abbrev sIsKind : Stmt := top 13
abbrev sAreUses : Stmt := top 14
abbrev sIsMaking : Stmt := top 15
abbrev sMInit : Stmt := inClass (top 16) 0
abbrev sLeaves : Stmt := inClass (top 16) 1
abbrev sUsedBy : Stmt := top 17
abbrev sUsedFor : Stmt := top 18
abbrev sTakeEq : Stmt := top 19
abbrev sRunEq : Stmt := top 20
abbrev sTakeEqs : Stmt := top 21
abbrev sRunEqs : Stmt := top 22
abbrev sLowest : Stmt := top 23
abbrev sWithout : Stmt := top 24
abbrev sSolved : Stmt := top 25
abbrev sTooGreat : Stmt := top 26
abbrev sFracAns : Stmt := top 27
abbrev sRunsAns : Stmt := top 28
abbrev sLetOutT : Stmt := top 29
abbrev sWInit : Stmt := inClass (top 30) 0
abbrev sBegin : Stmt := inClass (top 30) 1
abbrev sTell : Stmt := inClass (top 30) 2
abbrev sForget : Stmt := inClass (top 30) 3
abbrev sTook : Stmt := inClass (top 30) 4
abbrev sRuns : Stmt := inClass (top 30) 5
abbrev sLetOut : Stmt := inClass (top 30) 6
abbrev sRefKind : Stmt := inClass (top 30) 7
abbrev sRefQ : Stmt := inClass (top 30) 8
abbrev sRefOrd : Stmt := inClass (top 30) 9
abbrev sEnd : Stmt := top 38
abbrev sAnswer : Stmt := top 39
abbrev sAnswers : Stmt := top 40
/-! ### what of the module is known -/
def lens : List (Int × Int) := [(0, 1), (1, 5), (2, 2), (3, 2), (4, 3), (5, 3)]
structure Txt (K : PySem.W.Frag) (mg : Str → Option Value) (C W L : Addr) : Prop where
  kinds : ∃ t, mg "KINDS" = some (.int 8 t)
  mostMade : ∃ t, mg "MOST_MADE" = some (.int 1000 t)
  mostOut : ∃ t, mg "MOST_LET_OUT" = some (.int 1000000 t)
  mostUsed : ∃ t, mg "MOST_USED" = some (.int 1000 t)
  mostOrd : ∃ t, mg "MOST_ORDERED" = some (.int 1000000 t)
  great : ∃ t, mg "TOO_GREAT_FROM" = some (.int 4611686018427387904 t)
  done : ∃ t, mg "DONE" = some (.int 0 t)
  notTold : ∃ t, mg "NOT_TOLD" = some (.int (-2) t)
  wrong : ∃ t, mg "WRONG" = some (.int (-22) t)
  cannot : ∃ t, mg "CANNOT_BE" = some (.int (-33) t)
  usedNot : ∃ t, mg "USED_BUT_NOT_TOLD" = some (.int (-61) t)
  tooGreat : ∃ t, mg "TOO_GREAT" = some (.int (-75) t)
  begin_ : ∃ t, mg "BEGIN" = some (.int 0 t)
  tell : ∃ t, mg "TELL" = some (.int 1 t)
  forget : ∃ t, mg "FORGET" = some (.int 2 t)
  took : ∃ t, mg "TOOK" = some (.int 3 t)
  runs : ∃ t, mg "RUNS" = some (.int 4 t)
  lengths : mg "LENGTHS" = some (.ref L)
  tab : Tab K L lens
  len : mg "len" = none
  max : mg "max" = none
  tuple : mg "tuple" = none
  range : mg "range" = none
  sorted : mg "sorted" = none
  zip : mg "zip" = none
  any : mg "any" = none
  clM : Cls K C
  nKind : NoAttr K C "kind"
  nMakes : NoAttr K C "makes"
  nOut : NoAttr K C "out"
  nUses : NoAttr K C "uses"
  mgM : mg "Making" = some (.ref C)
  clW : Cls K W
  nTold : NoAttr K W "told"
  mgW : mg "Workshop" = some (.ref W)
theorem pe_gint {X : Cx} {x : Str} {i : Int} {pos : Pos} (hm : ∃ t, X.mg x = some (.int i t)) (hg : Gl X x := by rfl) (hd : (x == ("__debug__" : Str)) = false := by decide) : PE X (.Name x pos) (tC (.int i)) := by
  obtain ⟨t, h⟩ := hm
  exact pe_glob hg h ⟨t, rfl⟩ hd
/-! ### a def that may be called -/
structure Cal (P : Program) (w : World) (K : PySem.W.Frag) (mg : Str → Option Value) (base : Heap) (x : Str) (k : Nat) (ps : List Str) (sp : Sp) : Prop where
  ex : ∃ (f : Addr) (fd : FuncData), FnOk P w K mg base CX0 k f fd ps sp ∧ Binds K fd ps [] ∧ mg x = some (.ref f) ∧ PySem.W.keepIn K (.ref f) = true
structure MCal (P : Program) (w : World) (K : PySem.W.Frag) (mg : Str → Option Value) (base : Heap) (C : Addr) (x : Str) (k : Nat) (ps : List Str) (sp : Sp) : Prop where
  ex : ∃ (f : Addr) (fd : FuncData), FnOk P w K mg base CX0 k f fd ps sp ∧ Binds K fd ps [] ∧ Meth K C x f
structure NCal (P : Program) (w : World) (K : PySem.W.Frag) (mg : Str → Option Value) (base : Heap) (C : Addr) (x : Str) (k : Nat) (ps : List Str) (sp : Sp) : Prop where
  ex : ∃ (f : Addr) (fd : FuncData), FnOk P w K mg base CX0 k f fd ps sp ∧ Binds K fd ps [] ∧ Mk K C f ∧ mg x = some (.ref C)
section
variable {X : Cx} {x : Str} {k : Nat} {ps : List Str} {sp : Sp} {p pos apos : Pos} {e o : Expr} {es : List Expr} {t : TA} {ta : TE} {C : Addr}
theorem pe_cal (c : Cal X.prog X.w X.K X.mg X.base x k ps sp) (hr : Room k X.A) (ha : PA X (e :: es) t) (hg : Gl X x := by rfl) (hdb : (x == ("__debug__" : Str)) = false := by decide)
    (he : starEach (e :: es) X.env = (false, eval e X.env) :: starEach es X.env := by rfl) (hpl : (backTo pos (starEach es X.env)).any (·.1) = false := by rfl) : PE X (.Call (.Name x p) (e :: es) [] pos) (tCall sp [] E0 t) := by
  obtain ⟨f, fd, F, b, m, kp⟩ := c.ex
  exact pe_call F hr hg m kp b .nil pass0 ha hdb he hpl
theorem pe_mcal {m : Str} (c : MCal X.prog X.w X.K X.mg X.base C m k ps sp) (cl : Cls X.K C) (hr : Room k X.A) (ho : PE X o ta) (ha : PA X (e :: es) t) {pl : Sem Bool} (hst : starEach (e :: es) X.env = (false, eval e X.env) :: starEach es X.env := by rfl) (hpl : (backTo pos (starEach es X.env)).any (·.1) = false := by rfl)
    (ht : eval (.Call (.Attribute o m apos) (e :: es) [] pos) X.env = (do
      let ov ← eval o X.env
      standAt apos.atName
      let (f, first) ← holding [ov] (getMethod ov m pl)
      callWith pos f first (backTo pos (starEach (e :: es) X.env)) (backToKw pos (keywordEach [] X.env))) := by rfl) : PE X (.Call (.Attribute o m apos) (e :: es) [] pos) (tMeth C m sp [] E0 ta t) := by
  obtain ⟨f, fd, F, b, mt⟩ := c.ex
  exact pe_meth ho cl mt F hr b .nil pass0 ha hst hpl ht
theorem pe_mcal0 {m : Str} (c : MCal X.prog X.w X.K X.mg X.base C m k ps sp) (cl : Cls X.K C) (hr : Room k X.A) (ho : PE X o ta) {pl : Sem Bool}
    (ht : eval (.Call (.Attribute o m apos) [] [] pos) X.env = (do
      let ov ← eval o X.env
      standAt apos.atName
      let (f, first) ← holding [ov] (getMethod ov m pl)
      callWith pos f first (backTo pos (starEach [] X.env)) (backToKw pos (keywordEach [] X.env))) := by rfl) : PE X (.Call (.Attribute o m apos) [] [] pos) (tMeth C m sp [] E0 ta tNil) := by
  obtain ⟨f, fd, F, b, mt⟩ := c.ex
  exact pe_meth0 ho cl mt F hr b .nil pass0 ht
theorem pe_ncal (c : NCal X.prog X.w X.K X.mg X.base C x k ps sp) (hr : Room (k + 1) X.A) (ha : PA X (e :: es) t) (hg : Gl X x := by rfl) (hdb : (x == ("__debug__" : Str)) = false := by decide)
    (he : starEach (e :: es) X.env = (false, eval e X.env) :: starEach es X.env := by rfl) (hpl : (backTo pos (starEach es X.env)).any (·.1) = false := by rfl) : PE X (.Call (.Name x p) (e :: es) [] pos) (tMake C sp [] E0 t) := by
  obtain ⟨f, fd, F, b, M, m⟩ := c.ex
  exact pe_make M F hr hg m b .nil pass0 ha hdb he hpl
theorem pe_ncal0 (c : NCal X.prog X.w X.K X.mg X.base C x k ps sp) (hr : Room (k + 1) X.A) (hg : Gl X x := by rfl) (hdb : (x == ("__debug__" : Str)) = false := by decide) : PE X (.Call (.Name x p) [] [] pos) (tMake C sp [] E0 tNil) := by
  obtain ⟨f, fd, F, b, M, m⟩ := c.ex
  exact pe_make0 M F hr hg m b .nil pass0 hdb
end
/-! ### data -/
def iL (ns : List Int) : List V := ns.map V.int
def nL (ns : List Nat) : List V := ns.map fun (n : Nat) => V.int (n : Int)
def mkF (k mk o : Int) (u : Addr) : List (Str × V) := [("kind", .int k), ("makes", .int mk), ("out", .int o), ("uses", .ref u)]
/-- a Making stands at a -/
def MkAt (C : Addr) (H : Hp) (a : Addr) (k : Nat) (m : Making) : Prop := ∃ dx u, H a = some (.ins C dx (mkF k m.makes m.out u)) ∧ H u = some (.tup (nL m.uses))
theorem MkAt.same {C : Addr} {H H' : Hp} {a : Addr} {k : Nat} {m : Making} (s : Same H H') (h : MkAt C H a k m) : MkAt C H' a k m := let ⟨dx, u, h1, h2⟩ := h; ⟨dx, u, s _ _ h1, s _ _ h2⟩
/-- the dict at d tells the house h -/
structure ToldAt (C : Addr) (H : Hp) (d : Addr) (h : House) : Prop where
  ex : ∃ kvs : List (Key × V), H d = some (.dK kvs) ∧ (kvs.map (·.1)).Nodup ∧ (∀ y ∈ kvs.map (·.1), ∃ k : Nat, k < 8 ∧ y = Sum.inl (k : Int)) ∧
    (∀ k : Nat, making h k = none → valV kvs (Sum.inl (k : Int)) = none) ∧ ∀ (k : Nat) (m : Making), making h k = some m → ∃ a, valV kvs (Sum.inl (k : Int)) = some (.ref a) ∧ MkAt C H a k m
  ok : HouseOk h
theorem ToldAt.same {C : Addr} {H H' : Hp} {d : Addr} {h : House} (s : Same H H') (t : ToldAt C H d h) : ToldAt C H' d h := by
  obtain ⟨kvs, h1, h2, h3, h4, h5⟩ := t.ex
  exact ⟨⟨kvs, s _ _ h1, h2, h3, h4, fun k m e => let ⟨a, q1, q2⟩ := h5 k m e; ⟨a, q1, q2.same s⟩⟩, t.ok⟩
theorem ToldAt.look {C : Addr} {H : Hp} {d : Addr} {h : House} (t : ToldAt C H d h) (k : Nat) : (making h k = none ∧ DGet H d (.int k) none) ∨ ∃ m a, making h k = some m ∧ DGet H d (.int k) (some (.ref a)) ∧ MkAt C H a k m := by
  obtain ⟨kvs, h1, h2, h3, h4, h5⟩ := t.ex
  cases e : making h k with
  | none =>
    refine .inl ⟨rfl, ?_⟩
    have q := DGet.k (k := Sum.inl (k : Int)) h1
    rw [h4 k e] at q
    exact q
  | some m =>
    obtain ⟨a, q1, q2⟩ := h5 k m e
    refine .inr ⟨m, a, rfl, ?_, q2⟩
    have q := DGet.k (k := Sum.inl (k : Int)) h1
    rw [q1] at q
    exact q
theorem at_nat {xs : List V} {j : Nat} {v : V} (h : xs[j]? = some v) : atI xs (j : Int) = some v := at_of rfl h
theorem nL_get {ns : List Nat} {j : Nat} {n : Nat} (h : ns[j]? = some n) : (nL ns)[j]? = some (.int (n : Int)) := by
  unfold nL
  rw [List.getElem?_map, h]
  rfl
theorem iL_get {ns : List Int} {j : Nat} {n : Int} (h : ns[j]? = some n) : (iL ns)[j]? = some (.int n) := by
  unfold iL
  rw [List.getElem?_map, h]
  rfl
section
variable {P : Program} {w : World} {K : PySem.W.Frag} {mg : Str → Option Value} {base : Heap} {C W L : Addr}
/-! ### is_kind -/
def spIsKind : Sp := fun vs H Q _ => ∃ k : Int, vs = [.int k] ∧ Q (.bl (decide (k < 8))) H
theorem scIsKind : FnScope ["k"] ["k"] (defScope sIsKind) := ⟨rfl, rfl, rfl, by decide +kernel, rfl, by decide +kernel, by decide +kernel⟩
theorem ok_isKind {f : Addr} {fd : FuncData} (F : Fun K "is_kind" "is_kind" sIsKind f fd) (T : Txt K mg C W L) : FnOk P w K mg base CX0 1 f fd ["k"] spIsKind := by
  refine F.ok scIsKind (fun vs H Q E h => ?_) (fun cdv A outer s H vs Q E hr h => ?_)
  · obtain ⟨k, rfl, _⟩ := h
    rfl
  · obtain ⟨k, rfl, q⟩ := h
    refine ⟨_, pss_one (ps_ret (pe_cmp (pc_lt (pv 0) (pe_gint T.kinds)))), ?_⟩
    exact ⟨_, rfl, _, _, rfl, rfl, q⟩
/-! ### are_uses -/
def usesOk (ns : List Int) : Bool := decide (ns.length = 8) && ns.all fun x => decide (x ≤ 1000)
def spAreUses (K : PySem.W.Frag) : Sp := fun vs H Q _ => ∃ (a : Addr) (ns : List Int), vs = [.ref a] ∧ SqL K H a (iL ns) ∧ Q (.bl (usesOk ns)) H
theorem scAreUses : FnScope ["uses"] ["uses"] (defScope sAreUses) := ⟨rfl, rfl, rfl, by decide +kernel, rfl, by decide +kernel, by decide +kernel⟩
theorem ok_areUses {f : Addr} {fd : FuncData} (F : Fun K "are_uses" "are_uses" sAreUses f fd) (T : Txt K mg C W L) : FnOk P w K mg base CX0 1 f fd ["uses"] (spAreUses K) := by
  refine F.ok scAreUses (fun vs H Q E h => ?_) (fun cdv A outer s H vs Q E hr h => ?_)
  · obtain ⟨a, ns, rfl, _⟩ := h
    rfl
  · obtain ⟨a, ns, rfl, hs, q⟩ := h
    refine ⟨_, pss_one (ps_ret (pe_and (pe_cmp (pc_eqI (pe_callB call_len_seq (by rfl) T.len PySem.boot_len (pa_cons (pv 0) pa_nil)) (pe_gint T.kinds)))
      (pe_one (pe_cmp (pc_le (pe_callB (cr_max rfl) (by rfl) T.max (by decide +kernel) (pa_cons (pv 0) pa_nil)) (pe_gint T.mostUsed)))))), ?_⟩
    refine ⟨_, rfl, a, _, rfl, .inl hs, _, _, rfl, rfl, _, rfl, ?_⟩
    have hl : (iL ns).length = ns.length := List.length_map _
    rw [hl]
    refine ite2 (fun c => ?_) fun c => ?_
    · have c' : ((ns.length : Nat) : Int) = 8 := of_decide_eq_true c
      refine ⟨_, rfl, a, ns, rfl, hs, by omega, fun m hm hmax => ⟨_, _, rfl, rfl, ?_⟩⟩
      have e : usesOk ns = decide (m ≤ 1000) := by
        unfold usesOk
        rw [decide_eq_true (show ns.length = 8 by omega), Bool.true_and]
        by_cases z : m ≤ 1000
        · rw [decide_eq_true z]
          exact List.all_eq_true.mpr fun y hy => decide_eq_true (Int.le_trans (hmax y hy) z)
        · rw [decide_eq_false z]
          exact Bool.eq_false_iff.mpr fun z2 => z (of_decide_eq_true (List.all_eq_true.mp z2 m hm))
      rw [e] at q
      exact q
    · have e : usesOk ns = false := by
        unfold usesOk
        rw [decide_eq_false (fun z : ns.length = 8 => c (decide_eq_true (by omega))), Bool.false_and]
      rw [e] at q
      exact q
/-! ### is_making -/
def makOk (mk o : Int) (ns : List Int) : Bool := decide (1 ≤ mk ∧ mk ≤ 1000) && (decide (o ≤ 1000000) && usesOk ns)
def spIsMaking (K : PySem.W.Frag) : Sp := fun vs H Q _ => ∃ (mk o : Int) (a : Addr) (ns : List Int), vs = [.int mk, .int o, .ref a] ∧ SqL K H a (iL ns) ∧ Q (.bl (makOk mk o ns)) H
theorem scIsMaking : FnScope ["makes", "out", "uses"] ["makes", "out", "uses"] (defScope sIsMaking) := ⟨rfl, rfl, rfl, by decide +kernel, rfl, by decide +kernel, by decide +kernel⟩
theorem ok_isMaking {f : Addr} {fd : FuncData} (F : Fun K "is_making" "is_making" sIsMaking f fd) (T : Txt K mg C W L) (cA : Cal P w K mg base "are_uses" 1 ["uses"] (spAreUses K)) : FnOk P w K mg base CX0 2 f fd ["makes", "out", "uses"] (spIsMaking K) := by
  refine F.ok scIsMaking (fun vs H Q E h => ?_) (fun cdv A outer s H vs Q E hr h => ?_)
  · obtain ⟨mk, o, a, ns, rfl, _⟩ := h
    rfl
  · obtain ⟨mk, o, a, ns, rfl, hs, q⟩ := h
    refine ⟨_, pss_one (ps_ret (pe_and (pe_chain op_le op_le pe_int (pv 0) (pe_gint T.mostMade)) (pe_and (pe_cmp (pc_le (pv 1) (pe_gint T.mostOut))) (pe_one (pe_cal cA hr (pa_cons (pv 2) pa_nil)))))), ?_⟩
    refine ⟨_, rfl, _, _, rfl, rfl, _, rfl, ?_⟩
    unfold makOk at q
    refine ite2 (fun c => ?_) fun c => ?_
    · have c1 : (1 : Int) ≤ mk := of_decide_eq_true c
      refine ⟨_, _, rfl, rfl, _, rfl, ?_⟩
      refine ite2 (fun d => ?_) fun d => ?_
      · have d1 : mk ≤ 1000 := of_decide_eq_true d
        rw [decide_eq_true (show 1 ≤ mk ∧ mk ≤ 1000 from ⟨c1, d1⟩), Bool.true_and] at q
        refine ⟨_, rfl, _, _, rfl, rfl, _, rfl, ?_⟩
        refine ite2 (fun e => ?_) fun e => ?_
        · have e1 : o ≤ 1000000 := of_decide_eq_true e
          rw [decide_eq_true e1, Bool.true_and] at q
          exact ⟨_, rfl, a, ns, rfl, hs, q⟩
        · have e1 : ¬ o ≤ 1000000 := fun z => e (decide_eq_true z)
          rw [decide_eq_false e1, Bool.false_and] at q
          exact q
      · have d1 : ¬ mk ≤ 1000 := fun z => d (decide_eq_true z)
        rw [decide_eq_false (fun z : 1 ≤ mk ∧ mk ≤ 1000 => d1 z.2), Bool.false_and] at q
        exact q
    · have c1 : ¬ (1 : Int) ≤ mk := fun z => c (decide_eq_true z)
      rw [decide_eq_false (fun z : 1 ≤ mk ∧ mk ≤ 1000 => c1 z.1), Bool.false_and] at q
      exact ⟨_, rfl, iteF q⟩
/-! ### Making.__init__ -/
def spMInit (K : PySem.W.Frag) (C : Addr) : Sp := fun vs H Q _ => ∃ (p dx : Addr) (k mk o : Int) (a : Addr) (us : List V), vs = [.ref p, .int k, .int mk, .int o, .ref a] ∧ H p = some (.ins C dx []) ∧ SqL K H a us ∧
  ∀ (H' : Hp) (u : Addr), H' p = some (.ins C dx (mkF k mk o u)) → H' u = some (.tup us) → (∀ b ob, H b = some ob → b ≠ p → H' b = some ob) → Q .non H'
theorem scMInit : FnScope ["self", "kind", "makes", "out", "uses"] ["self", "kind", "makes", "out", "uses"] (defScope sMInit) := ⟨rfl, rfl, rfl, by decide +kernel, rfl, by decide +kernel, by decide +kernel⟩
theorem ok_mInit {f : Addr} {fd : FuncData} (F : Fun K "__init__" "Making.__init__" sMInit f fd) (T : Txt K mg C W L) : FnOk P w K mg base CX0 1 f fd ["self", "kind", "makes", "out", "uses"] (spMInit K C) := by
  refine F.ok scMInit (fun vs H Q E h => ?_) (fun cdv A outer s H vs Q E hr h => ?_)
  · obtain ⟨p, dx, k, mk, o, a, us, rfl, _⟩ := h
    rfl
  · obtain ⟨p, dx, k, mk, o, a, us, rfl, hp, hs, q⟩ := h
    refine ⟨_, pss_cons (ps_fld (pv 0) (pv 1) rfl) (pss_cons (ps_fld (pv 0) (pv 2) rfl) (pss_cons (ps_fld (pv 0) (pv 3) rfl) (pss_one (ps_fld (pv 0) (pe_callTy call_tuple_of (by rfl) T.tuple (by decide +kernel) (pa_cons (pv 4) pa_nil)) rfl)))), ?_⟩
    refine ⟨_, rfl, _, rfl, p, C, dx, [], rfl, hp, T.clM, T.nKind, (by show 0 < 1000; decide), ?_⟩
    refine ⟨_, rfl, _, rfl, p, C, dx, _, rfl, upd_same, T.clM, T.nMakes, (by show 1 < 1000; decide), ?_⟩
    rw [upd_upd]
    refine ⟨_, rfl, _, rfl, p, C, dx, _, rfl, upd_same, T.clM, T.nOut, (by show 2 < 1000; decide), ?_⟩
    rw [upd_upd]
    have hs' : ∀ z : HO, Same H (upd H p z) ∨ True := fun _ => .inr trivial
    have hs2 : SqL K (upd H p (.ins C dx (putF "out" (.int o) (putF "makes" (.int mk) (putF "kind" (.int k) []))))) a us := by
      rcases hs with (h1 | ⟨ob, h1⟩) | h1
      · exact .inl (.inl (by rw [upd_ne (ne_of h1 hp (by intro z; cases z))]; exact h1))
      · exact .inl (.inr ⟨ob, by rw [upd_ne (ne_of h1 hp (by intro z; cases z))]; exact h1⟩)
      · exact .inr h1
    refine ⟨_, rfl, a, us, rfl, .inl ⟨hs2, fun u hu => ?_⟩⟩
    have nup : p ≠ u := ne_of_none (upd_same (H := H) (a := p)) hu
    refine ⟨_, rfl, p, C, dx, _, rfl, (by rw [upd_ne nup]; exact upd_same), T.clM, T.nUses, (by show 3 < 1000; decide), ?_⟩
    have hu0 : H u = none := by
      rw [upd_ne nup.symm] at hu
      exact hu
    refine q _ u upd_same (by rw [upd_ne nup.symm]; exact upd_same) fun b ob hb hne => ?_
    rw [upd_ne hne, upd_ne (ne_of_none hb hu0), upd_ne hne]
    exact hb
/-! ### Making.leaves -/
def spLeaves (C : Addr) : Sp := fun vs H Q _ => ∃ (a : Addr) (k j : Nat) (m : Making), vs = [.ref a, .int j] ∧ MkAt C H a k m ∧ j < m.uses.length ∧ Q (.int (((if k = j then m.makes else 0 : Nat) : Int) - ((m.uses.getD j 0 : Nat) : Int))) H
theorem scLeaves : FnScope ["self", "kind", "made"] ["self", "kind"] (defScope sLeaves) := ⟨rfl, rfl, rfl, by decide +kernel, rfl, by decide +kernel, by decide +kernel⟩
theorem ok_leaves {f : Addr} {fd : FuncData} (F : Fun K "leaves" "Making.leaves" sLeaves f fd) (T : Txt K mg C W L) : FnOk P w K mg base CX0 1 f fd ["self", "kind"] (spLeaves C) := by
  refine F.ok scLeaves (fun vs H Q E h => ?_) (fun cdv A outer s H vs Q E hr h => ?_)
  · obtain ⟨a, k, j, m, rfl, _⟩ := h
    rfl
  · obtain ⟨a, k, j, m, rfl, ⟨dx, u, h1, h2⟩, hj, q⟩ := h
    refine ⟨_, pss_cons (ps_set (i := 2) scLeaves.nd rfl (Or.inl rfl) (pe_ifExp (pt_cmp (pc_eqI (pv 1) (pe_fld (pv 0) rfl))) (pe_fld (pv 0) rfl) pe_int))
      (pss_one (ps_ret (pe_op op_sub (pv 2) (pe_ix ix_tup (pe_fld (pv 0) rfl) (pv 1) (fun _ _ => rfl))))), ?_⟩
    have e0 : m.uses[j]? = some (m.uses.getD j 0) := by
      rw [List.getD_eq_getElem?_getD, List.getElem?_eq_getElem hj]
      rfl
    refine ⟨_, rfl, _, rfl, a, C, dx, _, _, rfl, h1, T.clM, T.nKind, rfl, _, _, rfl, rfl, _, rfl, ?_⟩
    refine ite2 (fun c => ?_) fun c => ?_
    · have c1 : (j : Int) = (k : Int) := of_decide_eq_true c
      rw [if_pos (show k = j by omega)] at q
      refine ⟨_, rfl, a, C, dx, _, _, rfl, h1, T.clM, T.nMakes, rfl, ?_⟩
      exact ⟨_, rfl, _, rfl, a, C, dx, _, _, rfl, h1, T.clM, T.nUses, rfl, _, rfl, u, _, _, _, rfl, rfl, SqT.of h2, at_nat (nL_get e0), _, _, rfl, rfl, q⟩
    · have c1 : ¬ (j : Int) = (k : Int) := fun z => c (decide_eq_true z)
      rw [if_neg (show ¬ k = j by omega)] at q
      exact ⟨_, rfl, _, rfl, a, C, dx, _, _, rfl, h1, T.clM, T.nUses, rfl, _, rfl, u, _, _, _, rfl, rfl, SqT.of h2, at_nat (nL_get e0), _, _, rfl, rfl, q⟩
end
end Pt
end
section
set_option Elab.async false
set_option linter.all false
set_option maxRecDepth 100000
set_option maxHeartbeats 2000000
namespace Pt
open PySem PySem.Spec PyProof.Rows L2 Ru Pm
open Kp193 (Q House Making making usesOf makesOf outOf frac)
/-! ### heaps and lists -/
theorem same_upd {H H1 : Hp} {p : Addr} {o : HO} (s : Same H H1) (h : H p = none) : Same H (upd H1 p o) := fun b ob e => by
  rw [upd_ne (ne_of_none e h)]
  exact s b ob e
theorem same_new {H : Hp} {p : Addr} {o : HO} (h : H p = none) : Same H (upd H p o) := same_upd (Same.refl H) h
theorem nL_inv {ns : List Nat} {i : Nat} {x : V} (h : (nL ns)[i]? = some x) : ∃ j, ns[i]? = some j ∧ x = .int (j : Int) := by
  unfold nL at h
  rw [List.getElem?_map] at h
  cases e : ns[i]? with
  | none =>
    rw [e] at h
    cases h
  | some j =>
    rw [e] at h
    exact ⟨j, rfl, (Option.some.inj h).symm⟩
theorem iL_inv {ns : List Int} {i : Nat} {x : V} (h : (iL ns)[i]? = some x) : ∃ j, ns[i]? = some j ∧ x = .int j := by
  unfold iL at h
  rw [List.getElem?_map] at h
  cases e : ns[i]? with
  | none =>
    rw [e] at h
    cases h
  | some j =>
    rw [e] at h
    exact ⟨j, rfl, (Option.some.inj h).symm⟩
theorem nL_len (ns : List Nat) : (nL ns).length = ns.length := List.length_map _
theorem iL_len (ns : List Int) : (iL ns).length = ns.length := List.length_map _
theorem nL_snoc (ns : List Nat) (x : Nat) : nL ns ++ [.int (x : Int)] = nL (ns ++ [x]) := by
  unfold nL
  rw [List.map_append]
  rfl
theorem iL_snoc (ns : List Int) (x : Int) : iL ns ++ [.int x] = iL (ns ++ [x]) := by
  unfold iL
  rw [List.map_append]
  rfl
theorem nL_cast (ns : List Nat) : nL ns = (ns.map fun (x : Nat) => (x : Int)).map V.int := by
  unfold nL
  rw [List.map_map]
  rfl
theorem take_snoc {α : Type} : ∀ {l : List α} {i : Nat} {x : α}, l[i]? = some x → l.take (i + 1) = l.take i ++ [x]
  | [], i, x, h => by simp at h
  | a :: l, 0, x, h => by
    have e : a = x := Option.some.inj h
    subst e
    rfl
  | a :: l, i + 1, x, h => by
    have ih := take_snoc (l := l) (i := i) (x := x) h
    show a :: l.take (i + 1) = a :: l.take i ++ [x]
    rw [ih]
    rfl
theorem lt8 {n : Nat} (h : n ≤ 100) : n < sizeLine := Nat.lt_of_le_of_lt h (by decide)
theorem le8 {n : Nat} (h : n ≤ 100) : n ≤ sizeLine := Nat.le_of_lt (lt8 h)
/-- a list of objects -/
def ObjsAt (H : Hp) (p : Addr) (os : List HO) : Prop := ∃ rs : List Addr, H p = some (.lst (rs.map V.ref)) ∧ rs.length = os.length ∧ ∀ (i : Nat) (r : Addr), rs[i]? = some r → r ≠ p ∧ H r = os[i]?
theorem ObjsAt.nil {H : Hp} {p : Addr} (h : H p = some (.lst [])) : ObjsAt H p [] := ⟨[], h, rfl, fun i r e => by simp at e⟩
theorem ObjsAt.same {H H' : Hp} {p : Addr} {os : List HO} (s : Same H H') (h : ObjsAt H p os) : ObjsAt H' p os := by
  obtain ⟨rs, h1, h2, h3⟩ := h
  refine ⟨rs, s _ _ h1, h2, fun i r e => ?_⟩
  obtain ⟨q1, q2⟩ := h3 i r e
  refine ⟨q1, ?_⟩
  have hi : i < os.length := by
    have := (List.getElem?_eq_some_iff.mp e).1
    omega
  rw [List.getElem?_eq_getElem hi] at q2 ⊢
  exact s _ _ q2
theorem ObjsAt.get {H : Hp} {p : Addr} {os : List HO} (h : ObjsAt H p os) {i : Nat} {o : HO} (hi : os[i]? = some o) : ∃ (xs : List V) (r : Addr), H p = some (.lst xs) ∧ xs.length = os.length ∧ xs[i]? = some (.ref r) ∧ H r = some o := by
  obtain ⟨rs, h1, h2, h3⟩ := h
  have hl : i < rs.length := by
    have := (List.getElem?_eq_some_iff.mp hi).1
    omega
  have e : rs[i]? = some rs[i] := List.getElem?_eq_getElem hl
  refine ⟨_, rs[i], h1, by rw [List.length_map]; exact h2, by rw [List.getElem?_map, e]; rfl, ?_⟩
  rw [(h3 i _ e).2, hi]
theorem ObjsAt.lst {H : Hp} {p : Addr} {os : List HO} (h : ObjsAt H p os) : ∃ xs : List V, H p = some (.lst xs) ∧ xs.length = os.length := by
  obtain ⟨rs, h1, h2, _⟩ := h
  exact ⟨_, h1, by rw [List.length_map]; exact h2⟩
theorem ObjsAt.inv {H : Hp} {p : Addr} {os : List HO} {xs : List V} {i : Nat} {x : V} (h : ObjsAt H p os) (hp : H p = some (.lst xs)) (hx : xs[i]? = some x) : ∃ (r : Addr) (o : HO), x = .ref r ∧ os[i]? = some o ∧ H r = some o := by
  obtain ⟨rs, h1, h2, h3⟩ := h
  rw [h1] at hp
  have e : rs.map V.ref = xs := HO.lst.inj (Option.some.inj hp)
  rw [← e, List.getElem?_map] at hx
  cases e2 : rs[i]? with
  | none =>
    rw [e2] at hx
    cases hx
  | some r =>
    rw [e2] at hx
    have hl : i < os.length := by
      have := (List.getElem?_eq_some_iff.mp e2).1
      omega
    have e3 : os[i]? = some os[i] := List.getElem?_eq_getElem hl
    exact ⟨r, os[i], (Option.some.inj hx).symm, e3, (h3 i r e2).2.trans e3⟩
theorem ObjsAt.snoc {H H' : Hp} {p r : Addr} {os : List HO} {o : HO} (h : ObjsAt H p os) (s : Same H H') (hr : H' r = some o) (hne : r ≠ p) : ∃ acc : List V, H' p = some (.lst acc) ∧ acc.length = os.length ∧ ObjsAt (upd H' p (.lst (acc ++ [.ref r]))) p (os ++ [o]) := by
  obtain ⟨rs, h1, h2, h3⟩ := h.same s
  refine ⟨rs.map V.ref, h1, by rw [List.length_map]; exact h2, rs ++ [r], ?_, by simp [h2], fun i r' e => ?_⟩
  · rw [upd_same, List.map_append]
    rfl
  · by_cases hi : i < rs.length
    · rw [List.getElem?_append_left hi] at e
      obtain ⟨q1, q2⟩ := h3 i r' e
      refine ⟨q1, ?_⟩
      rw [upd_ne q1, q2, List.getElem?_append_left (by omega)]
    · rw [List.getElem?_append_right (by omega)] at e
      have h0 : i - rs.length = 0 := by
        have := (List.getElem?_eq_some_iff.mp e).1
        simp at this
        omega
      rw [h0] at e
      have e' : r = r' := Option.some.inj e
      subst e'
      refine ⟨hne, ?_⟩
      rw [upd_ne hne, hr, List.getElem?_append_right (by omega), show i - os.length = 0 by omega]
      rfl
def rowO (r : List Int) : HO := .lst (iL r)
def frO (q : Q) : HO := .tup [.int q.top, .int (q.bottom : Int)]
/-! ### in a comprehension's block the written part is named -/
section
variable {X : Cx}
theorem ixT (K : PySem.W.Frag) (h : X.K = K := by rfl) : IxR X (rIxT K) := by
  subst h
  exact ix_tup
theorem ixL (K : PySem.W.Frag) (h : X.K = K := by rfl) : IxR X (rIxL K) := by
  subst h
  exact ix_list
theorem pe_fldK (K : PySem.W.Frag) {e : Expr} {f : Str} {pos : Pos} {ta : TE} (he : PE X e ta) (hb : attributeBase e f X.env (eval e X.env) = eval e X.env := by rfl) (h : X.K = K := by rfl) : PE X (.Attribute e f pos) (tFld K ta f) := by
  subst h
  exact pe_fld he hb
theorem pg_tupK (K : PySem.W.Frag) {es : List Expr} {k : Nat} {t : TGs} {n : Nat} {pos : Pos} (hc : X.calm = true) (h : PGs X es t) (hn : (assignEach es X.env).length = n := by rfl) (hst : (assignEach es X.env).findIdx? (·.1) = none := by rfl) (hk : X.K = K := by rfl) : PG X (.Tuple es k pos) (gTup K n t) := by
  subst hk
  exact pg_tup hc h hn hst
end
/-- a comprehension's expression, to name its block's scope -/
def lcScope : Expr → Scope
  | .ListComp _ _ sc _ => sc
  | _ => { kind := .function, names := [], isGenerator := false, isCoroutine := false }
def retE : Stmt → Expr
  | .Return (some e) _ => e
  | .Assign _ e _ => e
  | .For _ _ b _ _ => match b with
    | [_, _, .Assign _ e _] => e
    | _ => .Constant .none 0 ⟨0, 0, 0, 0⟩
  | .If e _ _ _ => e
  | _ => .Constant .none 0 ⟨0, 0, 0, 0⟩
def leftE : Expr → Expr
  | .BinOp a _ _ _ => a
  | .Call _ (a :: _) _ _ => a
  | e => e
section
variable {P : Program} {w : World} {K : PySem.W.Frag} {mg : Str → Option Value} {base : Heap} {C W L : Addr}
/-! ### used_by -/
def usedL (h : House) (k : Nat) : List Nat := (List.range 8).filter fun j => decide (0 < usesOf h k j)
theorem mem_usedL {h : House} {k j : Nat} : j ∈ usedL h k ↔ j < 8 ∧ 0 < usesOf h k j := by
  unfold usedL
  rw [List.mem_filter, List.mem_range, decide_eq_true_iff]
theorem usedL_none {h : House} {k : Nat} (e : making h k = none) : usedL h k = [] := by
  refine List.eq_nil_iff_forall_not_mem.mpr fun j hj => ?_
  have := (mem_usedL.mp hj).2
  unfold usesOf at this
  rw [e] at this
  exact absurd this (Nat.lt_irrefl _)
theorem filt_succ (p : Nat → Bool) (i : Nat) : (List.range (i + 1)).filter p = (List.range i).filter p ++ (if p i = true then [i] else []) := by
  rw [List.range_succ, List.filter_append]
  by_cases h : p i = true
  · simp [h]
  · simp [h]
theorem uses_of {h : House} {k : Nat} {m : Making} (e : making h k = some m) (j : Nat) : usesOf h k j = m.uses.getD j 0 := by
  unfold usesOf
  rw [e]
theorem getD_at {ns : List Nat} {j : Nat} (h : j < ns.length) : ns[j]? = some (ns.getD j 0) := by
  rw [List.getD_eq_getElem?_getD, List.getElem?_eq_getElem h]
  rfl
def spUsedBy (C : Addr) : Sp := fun vs H Q _ => ∃ (d : Addr) (h : House) (k : Nat), vs = [.ref d, .int k] ∧ ToldAt C H d h ∧ ∀ (H' : Hp) (p : Addr), Same H H' → H p = none → H' p = some (.lst (nL (usedL h k))) → Q (.ref p) H'
theorem scUsedBy : FnScope ["told", "k", "kind"] ["told", "k"] (defScope sUsedBy) := ⟨rfl, rfl, rfl, by decide +kernel, rfl, by decide +kernel, by decide +kernel⟩
theorem bkUsedBy : BlkOk ["told", "k", "kind"] (defScope sUsedBy) (lcScope (retE ((defBody sUsedBy).getD 1 (.Pass ⟨0, 0, 0, 0⟩)))) [("kind", 2)] := blkOk_by (by decide +kernel)
theorem ok_usedBy {f : Addr} {fd : FuncData} (F : Fun K "used_by" "used_by" sUsedBy f fd) (T : Txt K mg C W L) : FnOk P w K mg base CX0 1 f fd ["told", "k"] (spUsedBy C) := by
  refine F.ok scUsedBy (fun vs H Q E h => ?_) (fun cdv A outer s H vs Q E hr h => ?_)
  · obtain ⟨d, h, k, rfl, _⟩ := h
    rfl
  · obtain ⟨d, h, k, rfl, t, q⟩ := h
    refine ⟨_, pss_cons (ps_if (pt_cmp (pc_dnotin (hu_of hr) (pv 1) (pv 0))) (pss_one (ps_ret (pe_lst pa_nil))) pss_nil)
      (pss_one (ps_ret (pe_lc (own := [("kind", 2)]) rfl scUsedBy.nd (pi_range1 rfl T.range (pa_cons (pe_gint T.kinds) pa_nil)) bkUsedBy
        (fun _ _ _ _ _ => pg_name (i := 2) scUsedBy.nd rfl (Or.inl rfl))
        (fun _ _ _ _ _ => pts_one (pt_cmp (pc_gt (pe_ix (ixT K) (pe_fldK K (pe_dget (hu_of hr) (pv 0) (pv 1) (fun _ _ => rfl))) (pv 2) (fun _ _ => rfl)) pe_int)))
        (fun _ _ _ _ _ => pv 2)))), ?_⟩
    rcases t.look k with ⟨hn, hg⟩ | ⟨m, a, hm, hg, hat⟩
    · refine ⟨_, rfl, _, rfl, d, _, rfl, hg, _, rfl, iteT ?_⟩
      exact ⟨Nat.zero_le _, fun p hp => q _ p (same_new hp) hp (by rw [upd_same, usedL_none hn]; rfl)⟩
    · refine ⟨_, rfl, _, rfl, d, _, rfl, hg, _, rfl, iteF ?_⟩
      refine ⟨8, rfl, by decide, by decide, fun D hD => lc_range (n := 8) (fun i H' => Same H H' ∧ H' D = some (.lst (nL ((List.range i).filter fun j => decide (0 < usesOf h k j))))) ⟨same_new hD, upd_same⟩ ?_ ?_⟩
      · rintro i H' hi ⟨s1, hD'⟩
        refine ⟨rfl, ?_⟩
        rcases (t.same s1).look k with ⟨hn', _⟩ | ⟨m', a', hm', hg', dx, u, h1, h2⟩
        · rw [hn'] at hm
          cases hm
        · have hul := (t.ok.ok k m' hm').ul
          have e0 := getD_at (ns := m'.uses) (j := i) (by omega)
          refine ⟨_, rfl, _, rfl, d, _, rfl, hg', a', C, dx, _, _, rfl, h1, T.clM, T.nUses, rfl, _, rfl, u, _, _, _, rfl, rfl, SqT.of h2, at_of (j := i) (by omega) (nL_get e0), _, _, rfl, rfl, _, rfl, ?_⟩
          have eu := uses_of hm' i
          have fs := filt_succ (fun j => decide (0 < usesOf h k j)) i
          refine ite2 (fun c => ?_) fun c => ?_
          · have c1 : (0 : Int) < ((m'.uses.getD i 0 : Nat) : Int) := of_decide_eq_true c
            refine ⟨_, rfl, _, hD', ?_, same_upd s1 hD, ?_⟩
            · rw [nL_len]
              exact lt8 (Nat.le_trans (List.length_filter_le _ _) (by rw [List.length_range]; omega))
            · rw [upd_same, fs, if_pos (decide_eq_true (by omega)), show (0 : Int) + (i : Int) = (i : Int) by omega, nL_snoc]
          · have c1 : ¬ (0 : Int) < ((m'.uses.getD i 0 : Nat) : Int) := fun z => c (decide_eq_true z)
            refine ⟨s1, ?_⟩
            rw [hD', fs, if_neg (fun z => absurd (of_decide_eq_true z) (by omega)), List.append_nil]
      · rintro H' ⟨s1, hD'⟩
        exact q H' D s1 hD hD'
/-! ### used_for -/
structure Walk (h : House) (k : Nat) (ks ws : List Nat) : Prop where
  nd : ks.Nodup
  self : k ∈ ks
  sub : ∀ x ∈ ks, x ∈ Kp193.part h k
  wsub : ∀ x ∈ ws, x ∈ ks
  cl : ∀ x ∈ ks, x ∉ ws → ∀ j, j < 8 → 0 < usesOf h x j → j ∈ ks
  len : ws.length ≤ ks.length
/-- within a turn: y is being walked, i of what it uses are seen to -/
structure Mid (h : House) (k y i : Nat) (ks ws : List Nat) : Prop where
  nd : ks.Nodup
  self : k ∈ ks
  sub : ∀ x ∈ ks, x ∈ Kp193.part h k
  wsub : ∀ x ∈ ws, x ∈ ks
  yin : y ∈ ks
  cl : ∀ x ∈ ks, x ≠ y → x ∉ ws → ∀ j, j < 8 → 0 < usesOf h x j → j ∈ ks
  seen : ∀ x ∈ (usedL h y).take i, x ∈ ks
  len : ws.length ≤ ks.length
theorem part_bd {h : House} {k : Nat} {ks : List Nat} (nd : ks.Nodup) (sub : ∀ x ∈ ks, x ∈ Kp193.part h k) : ks.length ≤ 8 := by
  have := nodup_len (m := List.range 8) nd fun x hx => List.mem_range.mpr (part_lt h k x (sub x hx))
  simpa using this
theorem Walk.mid {h : House} {k y : Nat} {ks ws : List Nat} (w : Walk h k ks (ws ++ [y])) : Mid h k y 0 ks ws :=
  ⟨w.nd, w.self, w.sub, fun x hx => w.wsub x (List.mem_append_left _ hx), w.wsub y (List.mem_append_right _ (List.mem_singleton.mpr rfl)),
    fun x hx hne hw => w.cl x hx fun z => by
      rcases List.mem_append.mp z with z | z
      · exact hw z
      · exact hne (List.mem_singleton.mp z), fun x hx => by simp at hx, by
      have := w.len
      rw [List.length_append, List.length_singleton] at this
      omega⟩
theorem Mid.done {h : House} {k y : Nat} {ks ws : List Nat} (m : Mid h k y (usedL h y).length ks ws) : Walk h k ks ws := by
  refine ⟨m.nd, m.self, m.sub, m.wsub, fun x hx hw j hj hu => ?_, m.len⟩
  by_cases e : x = y
  · subst e
    exact m.seen j (by rw [List.take_length]; exact mem_usedL.mpr ⟨hj, hu⟩)
  · exact m.cl x hx e hw j hj hu
theorem Mid.old {h : House} {k y i j : Nat} {ks ws : List Nat} (m : Mid h k y i ks ws) (hj : (usedL h y)[i]? = some j) (hin : j ∈ ks) : Mid h k y (i + 1) ks ws := by
  refine ⟨m.nd, m.self, m.sub, m.wsub, m.yin, m.cl, fun x hx => ?_, m.len⟩
  rw [take_snoc hj] at hx
  rcases List.mem_append.mp hx with z | z
  · exact m.seen x z
  · rw [List.mem_singleton.mp z]
    exact hin
theorem Mid.new {h : House} {k y i j : Nat} {ks ws : List Nat} (hk : k < 8) (m : Mid h k y i ks ws) (hj : (usedL h y)[i]? = some j) (hin : j ∉ ks) : Mid h k y (i + 1) (ks ++ [j]) (ws ++ [j]) := by
  have hm := mem_usedL.mp (List.mem_of_getElem? hj)
  refine ⟨nd_snoc m.nd hin, List.mem_append_left _ m.self, fun x hx => ?_, fun x hx => ?_, List.mem_append_left _ m.yin, fun x hx hne hw i2 hi2 hu => ?_, fun x hx => ?_, by
    rw [List.length_append, List.length_append]
    have := m.len
    omega⟩
  · rcases List.mem_append.mp hx with z | z
    · exact m.sub x z
    · rw [List.mem_singleton.mp z]
      exact part_cl h hk y (m.sub y m.yin) j hm.1 hm.2
  · rcases List.mem_append.mp hx with z | z
    · exact List.mem_append_left _ (m.wsub x z)
    · exact List.mem_append_right _ z
  · rcases List.mem_append.mp hx with z | z
    · exact List.mem_append_left _ (m.cl x z hne (fun z2 => hw (List.mem_append_left _ z2)) i2 hi2 hu)
    · exact absurd (List.mem_append_right _ z) hw
  · rw [take_snoc hj] at hx
    rcases List.mem_append.mp hx with z | z
    · exact List.mem_append_left _ (m.seen x z)
    · exact List.mem_append_right _ z
def keyI (x : Nat) : Key := Sum.inl (x : Int)
theorem keyI_mem {ks : List Nat} {j : Nat} : keyI j ∈ ks.map keyI ↔ j ∈ ks := by
  constructor
  · intro h
    obtain ⟨x, hx, e⟩ := List.mem_map.mp h
    have e2 : (x : Int) = (j : Int) := Sum.inl.inj e
    have e3 : x = j := by omega
    exact e3 ▸ hx
  · intro h
    exact List.mem_map.mpr ⟨j, h, rfl⟩
def spUsedFor (C : Addr) : Sp := fun vs H Q _ => ∃ (d : Addr) (h : House) (k : Nat), vs = [.ref d, .int k] ∧ ToldAt C H d h ∧ k < 8 ∧ ∀ (H' : Hp) (p : Addr), Same H H' → H p = none → H' p = some (.lst (nL (Kp193.part h k))) → Q (.ref p) H'
theorem scUsedFor : FnScope ["told", "k", "found", "waiting", "newest", "kind"] ["told", "k"] (defScope sUsedFor) := ⟨rfl, rfl, rfl, by decide +kernel, rfl, by decide +kernel, by decide +kernel⟩
theorem ok_usedFor {f : Addr} {fd : FuncData} (F : Fun K "used_for" "used_for" sUsedFor f fd) (T : Txt K mg C W L) (cB : Cal P w K mg base "used_by" 1 ["told", "k"] (spUsedBy C)) : FnOk P w K mg base CX0 2 f fd ["told", "k"] (spUsedFor C) := by
  refine F.ok scUsedFor (fun vs H Q E h => ?_) (fun cdv A outer s H vs Q E hr h => ?_)
  · obtain ⟨d, h, k, rfl, _⟩ := h
    rfl
  · obtain ⟨d, h, k, rfl, t, hk, q⟩ := h
    refine ⟨_, pss_cons (ps_set (i := 2) scUsedFor.nd rfl (Or.inl rfl) (pe_disp (pps_cons (pv 1) pe_bl pps_nil) rfl rfl (by intro z; cases z) (by show 1 ≤ 15; decide)))
      (pss_cons (ps_set (i := 3) scUsedFor.nd rfl (Or.inl rfl) (pe_lst (pa_cons (pv 1) pa_nil)))
      (pss_cons (ps_while PassesOwn.never (pt_cmp (pc_gt (pe_callB call_len_seq (by rfl) T.len PySem.boot_len (pa_cons (pv 3) pa_nil)) pe_int))
        (pss_cons (ps_set (i := 4) scUsedFor.nd rfl (Or.inl rfl) (pe_bm0 PySem.F.plainAttrs_list PySem.F.slot_list_pop PySem.F.type_list_pop mt_pop (pv 3)))
        (pss_one (ps_for PassesOwn.never rfl (pi_list (pe_cal cB hr (pa_cons (pv 0) (pa_cons (pv 4) pa_nil)))) (pg_name (i := 5) scUsedFor.nd rfl (Or.inl rfl))
          (pss_one (ps_if (pt_cmp (pc_dnotin (hu_of hr) (pv 5) (pv 2)))
            (pss_cons (ps_dput (hu_of hr) (pv 2) (pv 5) pe_bl rfl) (pss_one (ps_expr (pe_bm PySem.F.plainAttrs_list PySem.F.slot_list_append PySem.F.type_list_append mt_append (pv 3) (pa_cons (pv 5) pa_nil)))))
            pss_nil))))))
      (pss_one (ps_ret (pe_callB (cr_sortedD rfl) (by rfl) T.sorted (by decide +kernel) (pa_cons (pv 2) pa_nil)))))), ?_⟩
    intro f0 hf0
    refine ⟨_, rfl, upd_same, [(keyI k, .bl true)], rfl, (by show 1 ≤ 15; decide), ?_⟩
    rw [upd_upd]
    refine ⟨_, rfl, (by show 1 ≤ sizeLine; decide), fun w0 hw0 => ?_⟩
    have hw0' : H w0 = none := (same_new hf0).free hw0
    have nfw : f0 ≠ w0 := ne_of_none upd_same hw0
    refine ⟨fun m σ H' => ∃ (ks ws : List Nat) (v4 v5 : Option V), σ = [some (.ref d), some (.int k), some (.ref f0), some (.ref w0), v4, v5] ∧ Same H H' ∧ (∃ kvs : List (Key × V), H' f0 = some (.dK kvs) ∧ kvs.map (·.1) = ks.map keyI) ∧ H' w0 = some (.lst (nL ws)) ∧ Walk h k ks ws ∧ m = 16 + ws.length - 2 * ks.length,
      ⟨_, [k], [k], none, none, rfl, same_upd (same_new hf0) hw0', ⟨[(keyI k, V.bl true)], by rw [upd_ne nfw]; exact upd_same, rfl⟩, upd_same, ⟨by simp, by simp, fun x hx => ?_, fun x hx => hx, fun x hx hn => absurd hx hn, Nat.le_refl _⟩, rfl⟩, ?_⟩
    · rw [List.mem_singleton.mp hx]
      exact part_self h hk
    rintro m σ H1 ⟨ks, ws, v4, v5, rfl, s1, ⟨kvs, hf, hkeys⟩, hw, Wk, rfl⟩
    have hks := part_bd Wk.nd Wk.sub
    refine ⟨_, rfl, w0, _, rfl, .inl (SqL.of hw), _, _, rfl, rfl, _, rfl, ?_⟩
    rw [nL_len]
    refine ite2 (fun c => ?_) fun c => ?_
    · have c1 : (0 : Int) < ((ws.length : Nat) : Int) := of_decide_eq_true c
      have hne : ws ≠ [] := fun z => by
        rw [z] at c1
        exact absurd c1 (by decide)
      obtain ⟨ws', y, rfl⟩ : ∃ ws' y, ws = ws' ++ [y] := ⟨ws.dropLast, ws.getLast hne, (List.dropLast_concat_getLast hne).symm⟩
      refine ⟨fun σ' H' => ∃ m', m' < 16 + (ws' ++ [y]).length - 2 * ks.length ∧ ∃ (ks ws : List Nat) (v4 v5 : Option V), σ' = [some (.ref d), some (.int k), some (.ref f0), some (.ref w0), v4, v5] ∧ Same H H' ∧ (∃ kvs : List (Key × V), H' f0 = some (.dK kvs) ∧ kvs.map (·.1) = ks.map keyI) ∧ H' w0 = some (.lst (nL ws)) ∧ Walk h k ks ws ∧ m' = 16 + ws.length - 2 * ks.length, fun _ _ z => z, ?_⟩
      have hlast : (nL (ws' ++ [y]))[(nL (ws' ++ [y])).length - 1]? = some (.int (y : Int)) := by
        refine nL_get ?_
        rw [nL_len, List.length_append, List.length_singleton, Nat.add_sub_cancel, List.getElem?_append_right (Nat.le_refl _), Nat.sub_self]
        rfl
      have hdrop : (nL (ws' ++ [y])).dropLast = nL ws' := by
        rw [← nL_snoc, List.dropLast_concat]
      refine ⟨_, rfl, .inl ⟨rfl, _, SqL.of hw⟩, w0, _, _, rfl, rfl, hw, hlast, ?_⟩
      rw [hdrop]
      have s2 : Same H (upd H1 w0 (.lst (nL ws'))) := same_upd s1 hw0'
      have nfw1 : f0 ≠ w0 := nfw
      refine ⟨_, rfl, _, rfl, d, h, y, rfl, t.same s2, fun H2 u s3 hu0 hu => ⟨u, rfl, ⟨_, SqL.of hu⟩, ?_⟩⟩
      have nuw : u ≠ w0 := fun z => by
        rw [z, upd_same] at hu0
        cases hu0
      have nuf : u ≠ f0 := fun z => by
        rw [z, upd_ne nfw, hf] at hu0
        cases hu0
      refine for_list (K := K) (a := u) (xs := nL (usedL h y)) (fun i σ H' => ∃ (ks3 ws3 : List Nat) (v5 : Option V), σ = [some (.ref d), some (.int k), some (.ref f0), some (.ref w0), some (.int (y : Int)), v5] ∧ Same H H' ∧ H' u = some (.lst (nL (usedL h y))) ∧
          (∃ kvs : List (Key × V), H' f0 = some (.dK kvs) ∧ kvs.map (·.1) = ks3.map keyI) ∧ H' w0 = some (.lst (nL ws3)) ∧ Mid h k y i ks3 ws3 ∧ ws3.length + 2 * ks.length ≤ ws'.length + 2 * ks3.length)
        ⟨ks, ws', v5, rfl, s2.trans s3, hu, ⟨kvs, s3 _ _ (by rw [upd_ne nfw]; exact hf), hkeys⟩, s3 _ _ upd_same, Wk.mid, Nat.le_refl _⟩ (fun i σ H' _ ⟨_, _, _, _, _, z, _⟩ => SqL.of z) ?_ ?_
      · rintro i x σ H3 hx ⟨ks3, ws3, v5', rfl, s4, hu3, ⟨kvs3, hf3, hk3⟩, hw3, M, hm⟩
        obtain ⟨j, hj, rfl⟩ := nL_inv hx
        have hb3 := part_bd M.nd M.sub
        refine ⟨_, rfl, _, rfl, f0, _, rfl, DGet.k (k := keyI j) hf3, _, rfl, ?_⟩
        cases e : valV kvs3 (keyI j) with
        | none =>
          have hin : j ∉ ks3 := fun z => valV_not e (by rw [hk3]; exact keyI_mem.mpr z)
          refine iteT ?_
          have hlk : kvs3.length = ks3.length := by
            have := congrArg List.length hk3
            simpa using this
          refine ⟨_, rfl, _, rfl, f0, _, rfl, DPut.k (k := keyI j) hf3 (lt8 (by omega)), ?_⟩
          have M2 := M.new hk hj hin
          have hb4 := part_bd M2.nd M2.sub
          have hw4 : (upd H3 f0 (.dK (putK kvs3 (keyI j) (.bl true)))) w0 = some (.lst (nL ws3)) := by
            rw [upd_ne (fun z => nfw z.symm)]
            exact hw3
          rw [List.length_append, List.length_singleton] at hb4
          refine ⟨_, rfl, .inl ⟨rfl, _, SqL.of hw4⟩, _, rfl, w0, _, _, rfl, rfl, hw4, (by rw [nL_len]; exact lt8 (by have := M.len; omega)), ?_⟩
          refine ⟨ks3 ++ [j], ws3 ++ [j], _, rfl, same_upd (same_upd s4 hf0) hw0', ?_, ⟨putK kvs3 (keyI j) (.bl true), by rw [upd_ne nfw]; exact upd_same, ?_⟩, by rw [upd_same, nL_snoc], M2, ?_⟩
          · rw [upd_ne nuw, upd_ne nuf]
            exact hu3
          · rw [putK_new _ e, List.map_append, hk3, List.map_append]
            rfl
          · rw [List.length_append, List.length_append, List.length_singleton]
            omega
        | some v =>
          have hin : j ∈ ks3 := keyI_mem.mp (by rw [← hk3]; exact valV_in e)
          refine iteF ?_
          exact ⟨ks3, ws3, _, rfl, s4, hu3, ⟨kvs3, hf3, hk3⟩, hw3, M.old hj hin, hm⟩
      · rintro σ H3 ⟨ks3, ws3, v5', rfl, s4, hu3, hf3, hw3, M, hm⟩
        rw [nL_len] at M
        have hb3 := part_bd M.nd M.sub
        refine ⟨_, ?_, ks3, ws3, _, _, rfl, s4, hf3, hw3, M.done, rfl⟩
        rw [List.length_append, List.length_singleton]
        omega
    · have c1 : ¬ (0 : Int) < ((ws.length : Nat) : Int) := fun z => c (decide_eq_true z)
      have ew : ws = [] := List.length_eq_zero_iff.mp (by omega)
      subst ew
      refine ⟨_, rfl, f0, kvs, ks.map fun (x : Nat) => (x : Int), rfl, hf, by rw [hkeys, List.map_map]; rfl, by rw [List.length_map]; omega, fun ns' p p1 p2 p3 => ?_⟩
      refine q _ p (same_upd s1 (s1.free p3)) (s1.free p3) ?_
      have e1 : ns' = (Kp193.part h k).map fun (x : Nat) => (x : Int) := by
        refine part_eq p1 p2 ?_ (List.mem_map.mpr ⟨k, Wk.self, rfl⟩) (fun x hx j hj hu => ?_) fun z hz => ?_
        · exact List.pairwise_map.mpr (Wk.nd.imp fun {a b} hab z => hab (by omega))
        · obtain ⟨x', hx', e⟩ := List.mem_map.mp hx
          have e' : x' = x := by omega
          subst e'
          exact List.mem_map.mpr ⟨j, Wk.cl x' hx' (by simp) j hj hu, rfl⟩
        · obtain ⟨x, hx, rfl⟩ := List.mem_map.mp hz
          exact ⟨x, Wk.sub x hx, rfl⟩
      rw [upd_same, e1, nL_cast]
end
end Pt
end
section
set_option Elab.async false
set_option linter.all false
set_option maxRecDepth 100000
set_option maxHeartbeats 2000000
namespace Pt
open PySem PySem.Spec PyProof.Rows L2 Ru Pm
open Kp193 (Q House Making making usesOf makesOf outOf frac)
section
variable {P : Program} {w : World} {K : PySem.W.Frag} {mg : Str → Option Value} {base : Heap} {C W L : Addr}
/-! ### equations -/
def AllTold (h : House) (s : List Nat) : Prop := ∀ x ∈ s, x < 8 ∧ ∃ m, making h x = some m
theorem num_of {h : House} {k : Nat} {m : Making} (e : making h k = some m) (j : Nat) : num h k j = ((if k = j then m.makes else 0 : Nat) : Int) - ((m.uses.getD j 0 : Nat) : Int) := by
  unfold num makesOf usesOf
  rw [e]
theorem out_of {h : House} {k : Nat} {m : Making} (e : making h k = some m) : outOf h k = m.out := by
  unfold outOf
  rw [e]
theorem ToldAt.at {C : Addr} {H : Hp} {d : Addr} {h : House} {k : Nat} {m : Making} (t : ToldAt C H d h) (e : making h k = some m) : ∃ a, DGet H d (.int k) (some (.ref a)) ∧ MkAt C H a k m := by
  rcases t.look k with ⟨hn, _⟩ | ⟨m', a, hm, hg, hat⟩
  · rw [hn] at e
    cases e
  · rw [hm] at e
    cases e
    exact ⟨a, hg, hat⟩
def spTakeEq (C : Addr) : Sp := fun vs H Q _ => ∃ (d l : Addr) (h : House) (s : List Nat) (k : Nat), vs = [.ref d, .ref l, .int k] ∧ ToldAt C H d h ∧ H l = some (.lst (nL s)) ∧ s.length ≤ 8 ∧ AllTold h s ∧ k ∈ s ∧
  ∀ (H' : Hp) (p : Addr), Same H H' → H p = none → H' p = some (rowO ((s.map fun j => num h k j) ++ [(outOf h k : Int)])) → Q (.ref p) H'
theorem scTakeEq : FnScope ["told", "kinds", "kind", "other"] ["told", "kinds", "kind"] (defScope sTakeEq) := ⟨rfl, rfl, rfl, by decide +kernel, rfl, by decide +kernel, by decide +kernel⟩
theorem bkTakeEq : BlkOk ["told", "kinds", "kind", "other"] (defScope sTakeEq) (lcScope (leftE (retE ((defBody sTakeEq).getD 0 (.Pass ⟨0, 0, 0, 0⟩))))) [("other", 3)] := blkOk_by (by decide +kernel)
theorem ok_takeEq {f : Addr} {fd : FuncData} (F : Fun K "taking_equation" "taking_equation" sTakeEq f fd) (T : Txt K mg C W L) (cL : MCal P w K mg base C "leaves" 1 ["self", "kind"] (spLeaves C)) : FnOk P w K mg base CX0 2 f fd ["told", "kinds", "kind"] (spTakeEq C) := by
  refine F.ok scTakeEq (fun vs H Q E h => ?_) (fun cdv A outer s H vs Q E hr h => ?_)
  · obtain ⟨d, l, h, s, k, rfl, _⟩ := h
    rfl
  · obtain ⟨d, l, h, s, k, rfl, t, hl, hs8, al, hk, q⟩ := h
    refine ⟨_, pss_one (ps_ret (pe_op op_cat (pe_lc (own := [("other", 3)]) rfl scTakeEq.nd (pi_list (pv 1)) bkTakeEq
        (fun _ _ _ _ _ => pg_name (i := 3) scTakeEq.nd rfl (Or.inl rfl)) (fun _ _ _ _ _ => pts_nil)
        (fun _ _ _ _ _ => pe_mcal cL T.clM hr (pe_dget (hu_of hr) (pv 0) (pv 2) (fun _ _ => rfl)) (pa_cons (pv 3) pa_nil)))
      (pe_lst (pa_cons (pe_fld (pe_dget (hu_of hr) (pv 0) (pv 2) (fun _ _ => rfl)) rfl) pa_nil)))), ?_⟩
    obtain ⟨m, hm⟩ := (al k hk).2
    refine ⟨_, rfl, l, rfl, ⟨_, SqL.of hl⟩, fun D hD => lc_list (K := K) (a := l) (xs := nL s) (fun i H' => Same H H' ∧ H' D = some (.lst (iL ((s.map fun j => num h k j).take i)))) ⟨same_new hD, by rw [upd_same]; rfl⟩ (fun i H' _ ⟨s1, _⟩ => SqL.of (s1 _ _ hl)) ?_ ?_⟩
    · rintro i x H' hx ⟨s1, hD'⟩
      obtain ⟨j, hj, rfl⟩ := nL_inv hx
      obtain ⟨a, hg, hat⟩ := (t.same s1).at hm
      have hj8 := (al j (List.mem_of_getElem? hj)).1
      have hul := (t.ok.ok k m hm).ul
      obtain ⟨dx, u, h1, h2⟩ := hat
      refine ⟨rfl, ?_⟩
      refine ⟨_, rfl, _, rfl, d, _, rfl, hg, a, dx, _, rfl, h1, rfl, _, rfl, a, k, j, m, rfl, ⟨dx, u, h1, h2⟩, by omega, ?_⟩
      refine ⟨_, hD', ?_, same_upd s1 hD, ?_⟩
      · rw [iL_len, List.length_take, List.length_map]
        exact lt8 (by omega)
      · rw [upd_same, take_snoc (x := num h k j) (by rw [List.getElem?_map, hj]; rfl), ← iL_snoc, num_of hm]
    · rintro H1 ⟨s1, hD'⟩
      rw [nL_len, List.take_of_length_le (by rw [List.length_map]; exact Nat.le_refl _)] at hD'
      obtain ⟨a, hg, dx, u, h1, h2⟩ := (t.same s1).at hm
      refine ⟨_, rfl, _, rfl, d, _, rfl, hg, a, C, dx, _, _, rfl, h1, T.clM, T.nOut, rfl, (by show 1 ≤ sizeLine; decide), fun z hz => ?_⟩
      have nDz : D ≠ z := ne_of_none hD' hz
      refine ⟨D, z, _, _, rfl, rfl, by rw [upd_ne nDz]; exact hD', upd_same, ?_, fun p hp => ?_⟩
      · rw [iL_len, List.length_map]
        exact le8 (by show s.length + 1 ≤ 100; omega)
      · have s2 : Same H (upd H1 z (.lst [.int (m.out : Int)])) := same_upd s1 (s1.free hz)
        refine q _ p (same_upd s2 (s2.free hp)) (s2.free hp) ?_
        rw [upd_same, out_of hm]
        unfold rowO
        rw [← iL_snoc]
def spRunEq (C : Addr) : Sp := fun vs H Q _ => ∃ (d l : Addr) (h : House) (s : List Nat) (k : Nat) (o : Int), vs = [.ref d, .ref l, .int k, .int o] ∧ ToldAt C H d h ∧ H l = some (.lst (nL s)) ∧ s.length ≤ 8 ∧ AllTold h s ∧ k ∈ s ∧
  ∀ (H' : Hp) (p : Addr), Same H H' → H p = none → H' p = some (rowO ((s.map fun j => num h j k) ++ [o])) → Q (.ref p) H'
theorem scRunEq : FnScope ["told", "kinds", "kind", "ordered", "other"] ["told", "kinds", "kind", "ordered"] (defScope sRunEq) := ⟨rfl, rfl, rfl, by decide +kernel, rfl, by decide +kernel, by decide +kernel⟩
theorem bkRunEq : BlkOk ["told", "kinds", "kind", "ordered", "other"] (defScope sRunEq) (lcScope (leftE (retE ((defBody sRunEq).getD 0 (.Pass ⟨0, 0, 0, 0⟩))))) [("other", 4)] := blkOk_by (by decide +kernel)
theorem ok_runEq {f : Addr} {fd : FuncData} (F : Fun K "running_equation" "running_equation" sRunEq f fd) (T : Txt K mg C W L) (cL : MCal P w K mg base C "leaves" 1 ["self", "kind"] (spLeaves C)) : FnOk P w K mg base CX0 2 f fd ["told", "kinds", "kind", "ordered"] (spRunEq C) := by
  refine F.ok scRunEq (fun vs H Q E h => ?_) (fun cdv A outer s H vs Q E hr h => ?_)
  · obtain ⟨d, l, h, s, k, o, rfl, _⟩ := h
    rfl
  · obtain ⟨d, l, h, s, k, o, rfl, t, hl, hs8, al, hk, q⟩ := h
    refine ⟨_, pss_one (ps_ret (pe_op op_cat (pe_lc (own := [("other", 4)]) rfl scRunEq.nd (pi_list (pv 1)) bkRunEq
        (fun _ _ _ _ _ => pg_name (i := 4) scRunEq.nd rfl (Or.inl rfl)) (fun _ _ _ _ _ => pts_nil)
        (fun _ _ _ _ _ => pe_mcal cL T.clM hr (pe_dget (hu_of hr) (pv 0) (pv 4) (fun _ _ => rfl)) (pa_cons (pv 2) pa_nil)))
      (pe_lst (pa_cons (pv 3) pa_nil)))), ?_⟩
    refine ⟨_, rfl, l, rfl, ⟨_, SqL.of hl⟩, fun D hD => lc_list (K := K) (a := l) (xs := nL s) (fun i H' => Same H H' ∧ H' D = some (.lst (iL ((s.map fun j => num h j k).take i)))) ⟨same_new hD, by rw [upd_same]; rfl⟩ (fun i H' _ ⟨s1, _⟩ => SqL.of (s1 _ _ hl)) ?_ ?_⟩
    · rintro i x H' hx ⟨s1, hD'⟩
      obtain ⟨j, hj, rfl⟩ := nL_inv hx
      obtain ⟨hj8, m, hm⟩ := al j (List.mem_of_getElem? hj)
      obtain ⟨a, hg, hat⟩ := (t.same s1).at hm
      have hk8 := (al k hk).1
      have hul := (t.ok.ok j m hm).ul
      obtain ⟨dx, u, h1, h2⟩ := hat
      refine ⟨rfl, ?_⟩
      refine ⟨_, rfl, _, rfl, d, _, rfl, hg, a, dx, _, rfl, h1, rfl, _, rfl, a, j, k, m, rfl, ⟨dx, u, h1, h2⟩, by omega, ?_⟩
      refine ⟨_, hD', ?_, same_upd s1 hD, ?_⟩
      · rw [iL_len, List.length_take, List.length_map]
        exact lt8 (by omega)
      · rw [upd_same, take_snoc (x := num h j k) (by rw [List.getElem?_map, hj]; rfl), ← iL_snoc, num_of hm]
    · rintro H1 ⟨s1, hD'⟩
      rw [nL_len, List.take_of_length_le (by rw [List.length_map]; exact Nat.le_refl _)] at hD'
      refine ⟨_, rfl, (by show 1 ≤ sizeLine; decide), fun z hz => ?_⟩
      have nDz : D ≠ z := ne_of_none hD' hz
      refine ⟨D, z, _, _, rfl, rfl, by rw [upd_ne nDz]; exact hD', upd_same, ?_, fun p hp => ?_⟩
      · rw [iL_len, List.length_map]
        exact le8 (by show s.length + 1 ≤ 100; omega)
      · have s2 : Same H (upd H1 z (.lst [.int o])) := same_upd s1 (s1.free hz)
        refine q _ p (same_upd s2 (s2.free hp)) (s2.free hp) ?_
        rw [upd_same]
        unfold rowO
        rw [← iL_snoc]
def spTakeEqs (C : Addr) : Sp := fun vs H Q _ => ∃ (d l : Addr) (h : House) (s : List Nat), vs = [.ref d, .ref l] ∧ ToldAt C H d h ∧ H l = some (.lst (nL s)) ∧ s.length ≤ 8 ∧ AllTold h s ∧
  ∀ (H' : Hp) (p : Addr), Same H H' → H p = none → ObjsAt H' p ((rowsT h s).map rowO) → Q (.ref p) H'
theorem scTakeEqs : FnScope ["told", "kinds", "kind"] ["told", "kinds"] (defScope sTakeEqs) := ⟨rfl, rfl, rfl, by decide +kernel, rfl, by decide +kernel, by decide +kernel⟩
theorem bkTakeEqs : BlkOk ["told", "kinds", "kind"] (defScope sTakeEqs) (lcScope (retE ((defBody sTakeEqs).getD 0 (.Pass ⟨0, 0, 0, 0⟩)))) [("kind", 2)] := blkOk_by (by decide +kernel)
theorem ok_takeEqs {f : Addr} {fd : FuncData} (F : Fun K "taking_equations" "taking_equations" sTakeEqs f fd) (T : Txt K mg C W L) (cE : Cal P w K mg base "taking_equation" 2 ["told", "kinds", "kind"] (spTakeEq C)) : FnOk P w K mg base CX0 3 f fd ["told", "kinds"] (spTakeEqs C) := by
  refine F.ok scTakeEqs (fun vs H Q E h => ?_) (fun cdv A outer s H vs Q E hr h => ?_)
  · obtain ⟨d, l, h, s, rfl, _⟩ := h
    rfl
  · obtain ⟨d, l, h, s, rfl, t, hl, hs8, al, q⟩ := h
    refine ⟨_, pss_one (ps_ret (pe_lc (own := [("kind", 2)]) rfl scTakeEqs.nd (pi_list (pv 1)) bkTakeEqs
        (fun _ _ _ _ _ => pg_name (i := 2) scTakeEqs.nd rfl (Or.inl rfl)) (fun _ _ _ _ _ => pts_nil)
        (fun _ _ _ _ _ => pe_cal cE hr (pa_cons (pv 0) (pa_cons (pv 1) (pa_cons (pv 2) pa_nil)))))), ?_⟩
    refine ⟨_, rfl, l, rfl, ⟨_, SqL.of hl⟩, fun D hD => lc_list (K := K) (a := l) (xs := nL s) (fun i H' => Same H H' ∧ ObjsAt H' D (((rowsT h s).map rowO).take i)) ⟨same_new hD, ObjsAt.nil upd_same⟩ (fun i H' _ ⟨s1, _⟩ => SqL.of (s1 _ _ hl)) ?_ ?_⟩
    · rintro i x H' hx ⟨s1, hD'⟩
      obtain ⟨j, hj, rfl⟩ := nL_inv hx
      refine ⟨rfl, ?_⟩
      refine ⟨_, rfl, _, rfl, _, rfl, d, l, h, s, j, rfl, t.same s1, s1 _ _ hl, hs8, al, List.mem_of_getElem? hj, fun H2 r s2 hr0 hr1 => ?_⟩
      have nrD : r ≠ D := fun z => by
        obtain ⟨xs, hxs, _⟩ := hD'.lst
        rw [z, hxs] at hr0
        cases hr0
      obtain ⟨acc, h1, h2, h3⟩ := hD'.snoc s2 hr1 nrD
      refine ⟨acc, h1, ?_, same_upd (s1.trans s2) hD, ?_⟩
      · rw [h2, List.length_take]
        unfold rowsT
        rw [List.length_map, List.length_map]
        exact lt8 (by omega)
      · rw [take_snoc (x := rowO ((s.map fun i => num h j i) ++ [(outOf h j : Int)])) (by unfold rowsT; rw [List.getElem?_map, List.getElem?_map, hj]; rfl)]
        exact h3
    · rintro H1 ⟨s1, hD'⟩
      rw [nL_len, List.take_of_length_le (by unfold rowsT; rw [List.length_map, List.length_map]; exact Nat.le_refl _)] at hD'
      exact q H1 D s1 hD hD'
def spRunEqs (C : Addr) : Sp := fun vs H Q _ => ∃ (d l : Addr) (h : House) (s : List Nat) (k n : Nat), vs = [.ref d, .ref l, .int k, .int n] ∧ ToldAt C H d h ∧ H l = some (.lst (nL s)) ∧ s.length ≤ 8 ∧ AllTold h s ∧
  ∀ (H' : Hp) (p : Addr), Same H H' → H p = none → ObjsAt H' p ((rowsR h s k n).map rowO) → Q (.ref p) H'
theorem scRunEqs : FnScope ["told", "kinds", "k", "n", "kind"] ["told", "kinds", "k", "n"] (defScope sRunEqs) := ⟨rfl, rfl, rfl, by decide +kernel, rfl, by decide +kernel, by decide +kernel⟩
theorem bkRunEqs : BlkOk ["told", "kinds", "k", "n", "kind"] (defScope sRunEqs) (lcScope (retE ((defBody sRunEqs).getD 0 (.Pass ⟨0, 0, 0, 0⟩)))) [("kind", 4)] := blkOk_by (by decide +kernel)
theorem ok_runEqs {f : Addr} {fd : FuncData} (F : Fun K "running_equations" "running_equations" sRunEqs f fd) (T : Txt K mg C W L) (cE : Cal P w K mg base "running_equation" 2 ["told", "kinds", "kind", "ordered"] (spRunEq C)) : FnOk P w K mg base CX0 3 f fd ["told", "kinds", "k", "n"] (spRunEqs C) := by
  refine F.ok scRunEqs (fun vs H Q E h => ?_) (fun cdv A outer s H vs Q E hr h => ?_)
  · obtain ⟨d, l, h, s, k, n, rfl, _⟩ := h
    rfl
  · obtain ⟨d, l, h, s, k, n, rfl, t, hl, hs8, al, q⟩ := h
    refine ⟨_, pss_one (ps_ret (pe_lc (own := [("kind", 4)]) rfl scRunEqs.nd (pi_list (pv 1)) bkRunEqs
        (fun _ _ _ _ _ => pg_name (i := 4) scRunEqs.nd rfl (Or.inl rfl)) (fun _ _ _ _ _ => pts_nil)
        (fun _ _ _ _ _ => pe_cal cE hr (pa_cons (pv 0) (pa_cons (pv 1) (pa_cons (pv 4) (pa_cons (pe_ifExp (pt_cmp (pc_eqI (pv 4) (pv 2))) (pv 3) pe_int) pa_nil))))))), ?_⟩
    refine ⟨_, rfl, l, rfl, ⟨_, SqL.of hl⟩, fun D hD => lc_list (K := K) (a := l) (xs := nL s) (fun i H' => Same H H' ∧ ObjsAt H' D (((rowsR h s k n).map rowO).take i)) ⟨same_new hD, ObjsAt.nil upd_same⟩ (fun i H' _ ⟨s1, _⟩ => SqL.of (s1 _ _ hl)) ?_ ?_⟩
    · rintro i x H' hx ⟨s1, hD'⟩
      obtain ⟨j, hj, rfl⟩ := nL_inv hx
      refine ⟨rfl, ?_⟩
      refine ⟨_, rfl, _, rfl, _, rfl, _, rfl, _, rfl, _, _, rfl, rfl, _, rfl, ?_⟩
      have fin : ∀ o : Int, o = ((if j = k then n else 0 : Nat) : Int) → spRunEq C [.ref d, .ref l, .int j, .int o] H' (fun y H4 => ∃ acc : List V, H4 D = some (.lst acc) ∧ acc.length < sizeLine ∧ Same H (upd H4 D (.lst (acc ++ [y]))) ∧ ObjsAt (upd H4 D (.lst (acc ++ [y]))) D (((rowsR h s k n).map rowO).take (i + 1))) E0 := by
        intro o ho
        refine ⟨d, l, h, s, j, o, rfl, t.same s1, s1 _ _ hl, hs8, al, List.mem_of_getElem? hj, fun H2 r s2 hr0 hr1 => ?_⟩
        have nrD : r ≠ D := fun z => by
          obtain ⟨xs, hxs, _⟩ := hD'.lst
          rw [z, hxs] at hr0
          cases hr0
        obtain ⟨acc, h1, h2, h3⟩ := hD'.snoc s2 hr1 nrD
        refine ⟨acc, h1, ?_, same_upd (s1.trans s2) hD, ?_⟩
        · rw [h2, List.length_take]
          unfold rowsR
          rw [List.length_map, List.length_map]
          exact lt8 (by omega)
        · rw [take_snoc (x := rowO ((s.map fun i => num h i j) ++ [o])) (by unfold rowsR; rw [List.getElem?_map, List.getElem?_map, hj, ho]; rfl)]
          exact h3
      refine ite2 (fun c => ?_) fun c => ?_
      · have c1 : (j : Int) = (k : Int) := of_decide_eq_true c
        exact ⟨_, rfl, fin _ (by rw [if_pos (show j = k by omega)])⟩
      · have c1 : ¬ (j : Int) = (k : Int) := fun z => c (decide_eq_true z)
        exact fin _ (by rw [if_neg (show ¬ j = k by omega)]; rfl)
    · rintro H1 ⟨s1, hD'⟩
      rw [nL_len, List.take_of_length_le (by unfold rowsR; rw [List.length_map, List.length_map]; exact Nat.le_refl _)] at hD'
      exact q H1 D s1 hD hD'
/-! ### lowest_terms -/
def spLowest : Sp := fun vs H Q _ => ∃ a b : Nat, vs = [.int (a : Int), .int (b : Int)] ∧ 0 < b ∧ Nat.gcd a b < 2 ^ 9000 ∧ ∀ (H' : Hp) (p : Addr), Same H H' → H p = none → H' p = some (frO (frac (a : Int) b)) → Q (.ref p) H'
theorem scLowest : FnScope ["above", "below", "divisor", "rest", "smaller"] ["above", "below"] (defScope sLowest) := ⟨rfl, rfl, rfl, by decide +kernel, rfl, by decide +kernel, by decide +kernel⟩
theorem gcd_turn (x y : Nat) : Nat.gcd y (x % y) = Nat.gcd x y := by
  rw [Nat.gcd_comm y (x % y), ← Nat.gcd_rec y x, Nat.gcd_comm]
theorem ok_lowest {f : Addr} {fd : FuncData} (F : Fun K "lowest_terms" "lowest_terms" sLowest f fd) (T : Txt K mg C W L) : FnOk P w K mg base CX0 1 f fd ["above", "below"] spLowest := by
  refine F.ok scLowest (fun vs H Q E h => ?_) (fun cdv A outer s H vs Q E hr h => ?_)
  · obtain ⟨a, b, rfl, _⟩ := h
    rfl
  · obtain ⟨a, b, rfl, hb, hg, q⟩ := h
    refine ⟨_, pss_cons (ps_set (i := 2) scLowest.nd rfl (Or.inl rfl) (pv 0)) (pss_cons (ps_set (i := 3) scLowest.nd rfl (Or.inl rfl) (pv 1))
      (pss_cons (ps_while PassesOwn.never (pt_cmp (pc_gt (pv 3) pe_int))
        (pss_cons (ps_set (i := 4) scLowest.nd rfl (Or.inl rfl) (pe_op op_mod (pv 2) (pv 3))) (pss_cons (ps_set (i := 2) scLowest.nd rfl (Or.inl rfl) (pv 3)) (pss_one (ps_set (i := 3) scLowest.nd rfl (Or.inl rfl) (pv 4))))))
      (pss_one (ps_ret (pe_tup (pa_cons (pe_op op_fdivB (pv 0) (pv 2)) (pa_cons (pe_op op_fdivB (pv 1) (pv 2)) pa_nil))))))), ?_⟩
    refine ⟨_, rfl, _, rfl, ?_⟩
    refine ⟨fun m σ H' => ∃ (x y : Nat) (v4 : Option V), σ = [some (.int (a : Int)), some (.int (b : Int)), some (.int (x : Int)), some (.int (y : Int)), v4] ∧ H' = H ∧ Nat.gcd x y = Nat.gcd a b ∧ m = y, ⟨_, a, b, none, rfl, rfl, rfl, rfl⟩, ?_⟩
    rintro m σ H' ⟨x, y, v4, rfl, rfl, hxy, rfl⟩
    refine ⟨_, rfl, _, _, rfl, rfl, _, rfl, ?_⟩
    refine ite2 (fun c => ?_) fun c => ?_
    · have c1 : (0 : Int) < (m : Int) := of_decide_eq_true c
      refine ⟨fun σ' H1 => ∃ m', m' < m ∧ ∃ (x y : Nat) (v4 : Option V), σ' = [some (.int (a : Int)), some (.int (b : Int)), some (.int (x : Int)), some (.int (y : Int)), v4] ∧ H1 = H' ∧ Nat.gcd x y = Nat.gcd a b ∧ m' = y, fun _ _ z => z, ?_⟩
      refine ⟨_, rfl, _, rfl, _, _, rfl, rfl, c1, _, rfl, _, rfl, ?_⟩
      exact ⟨x % m, Nat.mod_lt _ (by omega), m, x % m, _, rfl, rfl, (gcd_turn x m).trans hxy, rfl⟩
    · have c1 : ¬ (0 : Int) < (m : Int) := fun z => c (decide_eq_true z)
      have e0 : m = 0 := by omega
      subst e0
      rw [Nat.gcd_zero_right] at hxy
      subst hxy
      have hp : 0 < Nat.gcd a b := Nat.gcd_pos_of_pos_right _ hb
      have hd : CDivB (a : Int) (Nat.gcd a b : Int) := ⟨by omega, by rw [Int.natAbs_natCast]; exact hg⟩
      have hd2 : CDivB (b : Int) (Nat.gcd a b : Int) := ⟨by omega, by rw [Int.natAbs_natCast]; exact hg⟩
      refine ⟨_, rfl, _, rfl, _, _, rfl, rfl, hd, _, rfl, _, rfl, _, _, rfl, rfl, hd2, (by show 2 ≤ sizeLine; decide), fun p hpn => ?_⟩
      refine q _ p (same_new hpn) hpn ?_
      rw [upd_same, frac_eq _ hb]
      rfl
/-! ### without_unknown -/
def Small (xs : List Int) : Prop := ∀ x ∈ xs, x.natAbs < 2 ^ 3000
def spWithout : Sp := fun vs H Q _ => ∃ (a b : Addr) (xs ys : List Int) (t : Nat) (p e : Int), vs = [.ref a, .ref b, .int (t : Int)] ∧ H a = some (rowO xs) ∧ H b = some (rowO ys) ∧ xs.length = ys.length ∧ xs.length ≤ 9 ∧ ys[t]? = some p ∧ xs[t]? = some e ∧ Small xs ∧ Small ys ∧
  ∀ (H' : Hp) (r : Addr), Same H H' → H r = none → H' r = some (rowO (List.zipWith (fun x y => p * x - e * y) xs ys)) → Q (.ref r) H'
theorem scWithout : FnScope ["equation", "first", "at", "number", "taken"] ["equation", "first", "at"] (defScope sWithout) := ⟨rfl, rfl, rfl, by decide +kernel, rfl, by decide +kernel, by decide +kernel⟩
theorem bkWithout : BlkOk ["equation", "first", "at", "number", "taken"] (defScope sWithout) (lcScope (retE ((defBody sWithout).getD 0 (.Pass ⟨0, 0, 0, 0⟩)))) [("number", 3), ("taken", 4)] := blkOk_by (by decide +kernel)
theorem mul_ok {xs ys : List Int} {x y : Int} (hx : Small xs) (hy : Small ys) (mx : x ∈ xs) (my : y ∈ ys) : CMulB x y := ⟨3000, 3000, hx x mx, hy y my, by decide⟩
theorem ok_without {f : Addr} {fd : FuncData} (F : Fun K "without_unknown" "without_unknown" sWithout f fd) (T : Txt K mg C W L) : FnOk P w K mg base CX0 1 f fd ["equation", "first", "at"] spWithout := by
  refine F.ok scWithout (fun vs H Q E h => ?_) (fun cdv A outer s H vs Q E hr h => ?_)
  · obtain ⟨a, b, xs, ys, t, p, e, rfl, _⟩ := h
    rfl
  · obtain ⟨a, b, xs, ys, t, p, e, rfl, ha, hb, hl, h9, hp, he, sx, sy, q⟩ := h
    refine ⟨_, pss_one (ps_ret (pe_lc (own := [("number", 3), ("taken", 4)]) rfl scWithout.nd (pi_zip rfl T.zip (pa_cons (pv 0) (pa_cons (pv 1) pa_nil))) bkWithout
        (fun _ _ _ _ _ => pg_tupK K (n := 2) rfl (pgs_cons (pg_name (i := 3) scWithout.nd rfl (Or.inl rfl)) (pgs_cons (pg_name (i := 4) scWithout.nd rfl (Or.inl rfl)) pgs_nil))) (fun _ _ _ _ _ => pts_nil)
        (fun _ _ _ _ _ => pe_op op_sub (pe_op op_mulB (pe_ix (ixL K) (pv 1) (pv 2) (fun _ _ => rfl)) (pv 3)) (pe_op op_mulB (pe_ix (ixL K) (pv 0) (pv 2) (fun _ _ => rfl)) (pv 4))))), ?_⟩
    have ha' : H a = some (.lst (iL xs)) := ha
    have hb' : H b = some (.lst (iL ys)) := hb
    refine ⟨_, rfl, _, rfl, a, b, _, _, rfl, SqL.of ha', SqL.of hb', fun D hD => lc_zip (K := K) (a := a) (b := b) (xs := iL xs) (ys := iL ys) (by rw [iL_len, iL_len]; exact hl)
      (fun i H' => Same H H' ∧ H' D = some (.lst (iL ((List.zipWith (fun x y => p * x - e * y) xs ys).take i)))) ⟨same_new hD, by rw [upd_same]; rfl⟩ (fun i H' _ ⟨s1, _⟩ => ⟨SqL.of (s1 _ _ ha'), SqL.of (s1 _ _ hb')⟩) ?_ ?_⟩
    · rintro i x y T0 H' hx hy hT ⟨s1, hD'⟩
      obtain ⟨x, hx2, rfl⟩ := iL_inv hx
      obtain ⟨y, hy2, rfl⟩ := iL_inv hy
      have s2 : Same H (upd H' T0 (.tup [.int x, .int y])) := same_upd s1 (s1.free hT)
      have hD2 : (upd H' T0 (.tup [.int x, .int y])) D = some (.lst (iL ((List.zipWith (fun x y => p * x - e * y) xs ys).take i))) := by
        rw [upd_ne (ne_of_none hD' hT)]
        exact hD'
      refine ⟨T0, _, rfl, SqT.of upd_same, rfl, _, _, rfl, _, _, rfl, rfl, rfl, ?_⟩
      refine ⟨_, rfl, _, rfl, b, _, _, _, rfl, rfl, SqL.of (s2 _ _ hb'), at_nat (iL_get hp), _, rfl, _, _, rfl, rfl, mul_ok sy sx (List.mem_of_getElem? hp) (List.mem_of_getElem? hx2), ?_⟩
      refine ⟨_, rfl, _, rfl, a, _, _, _, rfl, rfl, SqL.of (s2 _ _ ha'), at_nat (iL_get he), _, rfl, _, _, rfl, rfl, mul_ok sx sy (List.mem_of_getElem? he) (List.mem_of_getElem? hy2), ?_⟩
      refine ⟨_, _, rfl, rfl, _, hD2, ?_, same_upd s2 hD, ?_⟩
      · rw [iL_len, List.length_take, List.length_zipWith]
        exact lt8 (by omega)
      · rw [upd_same, take_snoc (x := p * x - e * y) (by rw [List.getElem?_zipWith, hx2, hy2]), ← iL_snoc]
    · rintro H1 ⟨s1, hD'⟩
      rw [iL_len, List.take_of_length_le (by rw [List.length_zipWith]; omega)] at hD'
      exact q H1 D s1 hD hD'
end
end Pt
end
section
set_option Elab.async false
set_option linter.all false
set_option maxRecDepth 100000
set_option maxHeartbeats 2000000
namespace Pt
open PySem PySem.Spec PyProof.Rows L2 Ru Pm
open Kp193 (Q House Making making usesOf makesOf outOf frac)
section
variable {P : Program} {w : World} {K : PySem.W.Frag} {mg : Str → Option Value} {base : Heap} {C W L : Addr}
/-! ### solved -/
def rowF (n : Nat) (a : Mx) (i : Nat) : List Int := (List.range (n + 1)).map fun j => a i j
theorem rowF_len (n : Nat) (a : Mx) (i : Nat) : (rowF n a i).length = n + 1 := by
  unfold rowF
  rw [List.length_map, List.length_range]
theorem rowF_get {n : Nat} (a : Mx) (i : Nat) {j : Nat} (h : j ≤ n) : (rowF n a i)[j]? = some (a i j) := by
  unfold rowF
  rw [List.getElem?_map, List.getElem?_range (by omega)]
  rfl
theorem mat_len (n : Nat) (a : Mx) : ((mat n a).map rowO).length = n := by
  unfold mat
  rw [List.length_map, List.length_map, List.length_range]
theorem mat_get {n : Nat} (a : Mx) {i : Nat} (h : i < n) : ((mat n a).map rowO)[i]? = some (rowO (rowF n a i)) := by
  unfold mat rowF
  rw [List.getElem?_map, List.getElem?_map, List.getElem?_range h]
  rfl
theorem zip_row {n : Nat} (a : Mx) {t i : Nat} (h : i ≠ t) : List.zipWith (fun x y => a t t * x - a i t * y) (rowF n a i) (rowF n a t) = rowF n (stepF a t) i := by
  refine List.ext_getElem? fun j => ?_
  by_cases hj : j ≤ n
  · rw [List.getElem?_zipWith, rowF_get a i hj, rowF_get a t hj, rowF_get _ i hj]
    unfold stepF
    rw [if_neg h]
  · rw [List.getElem?_eq_none (by rw [List.length_zipWith, rowF_len, rowF_len]; omega), List.getElem?_eq_none (by rw [rowF_len]; omega)]
theorem same_row {n : Nat} (a : Mx) (t : Nat) : rowF n (stepF a t) t = rowF n a t := by
  unfold rowF
  refine List.map_congr_left fun j _ => ?_
  unfold stepF
  rw [if_pos rfl]
theorem pow3000 {n t : Nat} (ht : t ≤ n) (hn : n ≤ 8) : 11 * 2 ^ t + 9 ≤ 2900 := by
  have := pow_le8 (Nat.le_trans ht hn)
  omega
theorem row_small {n t : Nat} {m : Mx} (b : Bd n 0 m) (hn : n ≤ 8) (ht : t ≤ n) {i : Nat} (hi : i < n) : Small (rowF n (itF m t) i) := by
  intro x hx
  obtain ⟨j, hj, rfl⟩ := List.mem_map.mp hx
  have hj := List.mem_range.mp hj
  have hb := bd_it b t ht
  have hp := pow3000 ht hn
  by_cases e : j = n
  · subst e
    exact Nat.lt_of_lt_of_le (hb.b i hi) (Nat.pow_le_pow_right (by decide) (by omega))
  · exact Nat.lt_of_lt_of_le (hb.c i j hi (by omega)) (Nat.pow_le_pow_right (by decide) (by omega))
def spSolved : Sp := fun vs H Q _ => ∃ (a : Addr) (n : Nat) (m : Mx), vs = [.ref a] ∧ ObjsAt H a ((mat n m).map rowO) ∧ n ≤ 8 ∧ Bd n 0 m ∧ Sg n m ∧
  (∀ u, u < n → itF m u u u ≤ 0 → ∀ H' : Hp, Same H H' → Q .non H') ∧ (Good n m → ∀ (H' : Hp) (p : Addr), Same H H' → H p = none → ObjsAt H' p ((found n m).map frO) → Q (.ref p) H')
theorem scSolved : FnScope ["equations", "size", "left", "at", "first", "i"] ["equations"] (defScope sSolved) := ⟨rfl, rfl, rfl, by decide +kernel, rfl, by decide +kernel, by decide +kernel⟩
theorem bkSolvedA : BlkOk ["equations", "size", "left", "at", "first", "i"] (defScope sSolved) (lcScope (retE ((defBody sSolved).getD 2 (.Pass ⟨0, 0, 0, 0⟩)))) [("i", 5)] := blkOk_by (by decide +kernel)
theorem bkSolvedB : BlkOk ["equations", "size", "left", "at", "first", "i"] (defScope sSolved) (lcScope (retE ((defBody sSolved).getD 3 (.Pass ⟨0, 0, 0, 0⟩)))) [("i", 5)] := blkOk_by (by decide +kernel)
theorem ok_solved {f : Addr} {fd : FuncData} (F : Fun K "solved" "solved" sSolved f fd) (T : Txt K mg C W L) (cW : Cal P w K mg base "without_unknown" 1 ["equation", "first", "at"] spWithout) (cL : Cal P w K mg base "lowest_terms" 1 ["above", "below"] spLowest) : FnOk P w K mg base CX0 2 f fd ["equations"] spSolved := by
  refine F.ok scSolved (fun vs H Q E h => ?_) (fun cdv A outer s H vs Q E hr h => ?_)
  · obtain ⟨a, n, m, rfl, _⟩ := h
    rfl
  · obtain ⟨a, n, m, rfl, ho, hn, hbd, hsg, q1, q2⟩ := h
    refine ⟨_, pss_cons (ps_set (i := 1) scSolved.nd rfl (Or.inr rfl) (pe_callB call_len_seq (by rfl) T.len PySem.boot_len (pa_cons (pv 0) pa_nil)))
      (pss_cons (ps_set (i := 2) scSolved.nd rfl (Or.inr rfl) (pv 0))
      (pss_cons (ps_for PassesOwn.never rfl (pi_range1 rfl T.range (pa_cons (pv 1) pa_nil)) (pg_name (i := 3) scSolved.nd rfl (Or.inr rfl))
        (pss_cons (ps_set (i := 4) scSolved.nd rfl (Or.inr rfl) (pe_ix ix_list (pv 2) (pv 3) (fun _ _ => rfl)))
        (pss_cons (ps_if (pt_cmp (pc_le (pe_ix ix_list (pv 4) (pv 3) (fun _ _ => rfl)) pe_int)) (pss_one (ps_ret pe_non)) pss_nil)
        (pss_one (ps_set (i := 2) scSolved.nd rfl (Or.inr rfl) (pe_lc (own := [("i", 5)]) rfl scSolved.nd (pi_range1 rfl T.range (pa_cons (pv 1) pa_nil)) bkSolvedA
          (fun _ _ _ _ _ => pg_name (i := 5) scSolved.nd rfl (Or.inl rfl)) (fun _ _ _ _ _ => pts_nil)
          (fun _ _ _ _ _ => pe_ifExp (pt_cmp (pc_eqI (pv 5) (pv 3))) (pv 4) (pe_cal cW hr (pa_cons (pe_ix (ixL K) (pv 2) (pv 5) (fun _ _ => rfl)) (pa_cons (pv 4) (pa_cons (pv 3) pa_nil)))))))))))
      (pss_one (ps_ret (pe_lc (own := [("i", 5)]) rfl scSolved.nd (pi_range1 rfl T.range (pa_cons (pv 1) pa_nil)) bkSolvedB
          (fun _ _ _ _ _ => pg_name (i := 5) scSolved.nd rfl (Or.inl rfl)) (fun _ _ _ _ _ => pts_nil)
          (fun _ _ _ _ _ => pe_cal cL hr (pa_cons (pe_ix (ixL K) (pe_ix (ixL K) (pv 2) (pv 5) (fun _ _ => rfl)) (pv 1) (fun _ _ => rfl)) (pa_cons (pe_ix (ixL K) (pe_ix (ixL K) (pv 2) (pv 5) (fun _ _ => rfl)) (pv 5) (fun _ _ => rfl)) pa_nil)))))))), ?_⟩
    obtain ⟨xs0, hx0, hl0⟩ := ho.lst
    rw [mat_len] at hl0
    refine ⟨_, rfl, a, _, rfl, .inl (SqL.of hx0), ?_⟩
    rw [hl0]
    refine ⟨_, rfl, _, rfl, (n : Int), rfl, by omega, by omega, ?_⟩
    refine for_range (lo := 0) (n := n) (fun t σ H' => ∃ (l : Addr) (v3 v4 : Option V), σ = [some (.ref a), some (.int (n : Int)), some (.ref l), v3, v4, none] ∧ Same H H' ∧ ObjsAt H' l ((mat n (itF m t)).map rowO) ∧ ∀ u, u < t → 0 < itF m u u u)
      ⟨a, none, none, rfl, Same.refl H, ho, fun u hu => absurd hu (Nat.not_lt_zero _)⟩ ?_ ?_
    · rintro t σ H1 ht ⟨l, v3, v4, rfl, s1, ho1, hpos⟩
      rw [Int.zero_add]
      obtain ⟨xs, r, hxs, hxl, hxt, hr1⟩ := ho1.get (mat_get (itF m t) ht)
      have hr2 : H1 r = some (.lst (iL (rowF n (itF m t) t))) := hr1
      refine ⟨_, rfl, _, rfl, l, xs, _, _, rfl, rfl, SqL.of hxs, at_nat hxt, ?_⟩
      refine ⟨_, rfl, _, rfl, r, _, _, _, rfl, rfl, SqL.of hr2, at_nat (iL_get (rowF_get _ t (Nat.le_of_lt ht))), _, _, rfl, rfl, _, rfl, ?_⟩
      refine ite2 (fun c => ?_) fun c => ?_
      · exact q1 t ht (of_decide_eq_true c) H1 s1
      · have c1 : ¬ itF m t t t ≤ 0 := fun z => c (decide_eq_true z)
        refine ⟨_, rfl, (n : Int), rfl, by omega, by omega, fun D hD => ?_⟩
        have nrD : r ≠ D := ne_of_none hr2 hD
        refine lc_range (lo := 0) (n := n) (fun i H' => Same H1 H' ∧ ObjsAt H' D (((mat n (itF m (t + 1))).map rowO).take i)) ⟨same_new hD, ObjsAt.nil upd_same⟩ ?_ ?_
        · rintro i H2 hi ⟨s2, hD2⟩
          rw [Int.zero_add]
          refine ⟨rfl, ?_⟩
          refine ⟨_, rfl, _, rfl, _, _, rfl, rfl, _, rfl, ?_⟩
          have fin : ∀ (r' : Addr) (H3 : Hp), Same H2 H3 → r' ≠ D → H3 r' = some (rowO (rowF n (itF m (t + 1)) i)) → ∃ acc : List V, H3 D = some (.lst acc) ∧ acc.length < sizeLine ∧ Same H1 (upd H3 D (.lst (acc ++ [.ref r']))) ∧ ObjsAt (upd H3 D (.lst (acc ++ [.ref r']))) D (((mat n (itF m (t + 1))).map rowO).take (i + 1)) := by
            intro r' H3 s3 hne hr3
            obtain ⟨acc, h1, h2, h3⟩ := hD2.snoc s3 hr3 hne
            refine ⟨acc, h1, ?_, same_upd (s2.trans s3) hD, ?_⟩
            · rw [h2, List.length_take, mat_len]
              exact lt8 (by omega)
            · rw [take_snoc (mat_get (itF m (t + 1)) hi)]
              exact h3
          refine ite2 (fun d => ?_) fun d => ?_
          · have d1 : (i : Int) = (t : Int) := of_decide_eq_true d
            have d2 : i = t := by omega
            refine ⟨_, rfl, fin r H2 (Same.refl _) nrD ?_⟩
            rw [s2 _ _ hr1, d2]
            show _ = some (rowO (rowF n (stepF (itF m t) t) t))
            rw [same_row]
          · have d1 : ¬ (i : Int) = (t : Int) := fun z => d (decide_eq_true z)
            have d2 : i ≠ t := by omega
            obtain ⟨xs', ri, hxs', _, hxi, hri⟩ := ho1.get (mat_get (itF m t) hi)
            rw [hxs] at hxs'
            have exs : xs = xs' := HO.lst.inj (Option.some.inj hxs')
            subst exs
            refine ⟨_, rfl, _, rfl, l, xs, _, _, rfl, rfl, SqL.of (s2 _ _ hxs), at_nat hxi, _, rfl, _, rfl, ?_⟩
            refine ⟨ri, r, rowF n (itF m t) i, rowF n (itF m t) t, t, _, _, rfl, s2 _ _ hri, s2 _ _ hr1, by rw [rowF_len, rowF_len], by rw [rowF_len]; omega, rowF_get _ t (Nat.le_of_lt ht), rowF_get _ i (Nat.le_of_lt ht), row_small hbd hn (Nat.le_of_lt ht) hi, row_small hbd hn (Nat.le_of_lt ht) ht, fun H3 r' s3 hf' hr' => ?_⟩
            rw [zip_row _ d2] at hr'
            refine fin r' H3 s3 (fun z => ?_) hr'
            obtain ⟨ys, hys, _⟩ := hD2.lst
            rw [z, hys] at hf'
            cases hf'
        · rintro H2 ⟨s2, hD2⟩
          rw [List.take_of_length_le (by rw [mat_len]; exact Nat.le_refl _)] at hD2
          refine ⟨D, _, _, rfl, s1.trans s2, hD2, fun u hu => ?_⟩
          by_cases e : u = t
          · rw [e]
            omega
          · exact hpos u (by omega)
    · rintro σ H1 ⟨l, v3, v4, rfl, s1, ho1, hpos⟩
      have hO := off_it (a := m) n (Nat.le_refl _) hpos
      have hs := sg_it hsg n (Nat.le_refl _) hpos
      have hb := bd_it hbd n (Nat.le_refl _)
      have hp8 := pow3000 (Nat.le_refl n) hn
      refine ⟨_, rfl, (n : Int), rfl, by omega, by omega, fun D hD => ?_⟩
      refine lc_range (lo := 0) (n := n) (fun i H' => Same H1 H' ∧ ObjsAt H' D (((found n m).map frO).take i)) ⟨same_new hD, ObjsAt.nil upd_same⟩ ?_ ?_
      · rintro i H2 hi ⟨s2, hD2⟩
        rw [Int.zero_add]
        refine ⟨rfl, ?_⟩
        obtain ⟨xs, r, hxs, _, hxi, hr1⟩ := ho1.get (mat_get (itF m n) hi)
        have hr2 : H1 r = some (.lst (iL (rowF n (itF m n) i))) := hr1
        have p1 := hO.p i hi
        have p2 := hs.b i hi
        have p3 := hb.c i i hi hi
        refine ⟨_, rfl, _, rfl, l, xs, _, _, rfl, rfl, SqL.of (s2 _ _ hxs), at_nat hxi, _, rfl, r, _, _, _, rfl, rfl, SqL.of (s2 _ _ hr2), at_nat (iL_get (rowF_get _ i (Nat.le_refl _))), ?_⟩
        refine ⟨_, rfl, _, rfl, l, xs, _, _, rfl, rfl, SqL.of (s2 _ _ hxs), at_nat hxi, _, rfl, r, _, _, _, rfl, rfl, SqL.of (s2 _ _ hr2), at_nat (iL_get (rowF_get _ i (Nat.le_of_lt hi))), ?_⟩
        refine ⟨(itF m n i n).toNat, (itF m n i i).toNat, by rw [Int.toNat_of_nonneg p2, Int.toNat_of_nonneg (Int.le_of_lt p1)]; rfl, by omega, ?_, fun H3 r' s3 hf' hr' => ?_⟩
        · refine Nat.lt_of_le_of_lt (Nat.gcd_le_right _ (by omega)) (Nat.lt_of_lt_of_le (m := 2 ^ (11 * 2 ^ n - 1)) (by omega) (Nat.pow_le_pow_right (by decide) (by omega)))
        · rw [Int.toNat_of_nonneg p2] at hr'
          have hne : r' ≠ D := fun z => by
            obtain ⟨ys, hys, _⟩ := hD2.lst
            rw [z, hys] at hf'
            cases hf'
          obtain ⟨acc, h1, h2, h3⟩ := hD2.snoc s3 hr' hne
          refine ⟨acc, h1, ?_, same_upd (s2.trans s3) hD, ?_⟩
          · rw [h2, List.length_take]
            unfold found
            rw [List.length_map, List.length_map, List.length_range]
            exact lt8 (by omega)
          · rw [take_snoc (x := frO (frac (itF m n i n) (itF m n i i).toNat)) (by unfold found; rw [List.getElem?_map, List.getElem?_map, List.getElem?_range hi]; rfl)]
            exact h3
      · rintro H2 ⟨s2, hD2⟩
        rw [List.take_of_length_le (by unfold found; rw [List.length_map, List.length_map, List.length_range]; exact Nat.le_refl _)] at hD2
        exact q2 hpos H2 D (s1.trans s2) (s1.free hD) hD2
end
end Pt
end
section
set_option Elab.async false
set_option linter.all false
set_option maxRecDepth 100000
set_option maxHeartbeats 2000000
namespace Pt
open PySem PySem.Spec PyProof.Rows L2 Ru Pm
open Kp193 (Q House Making making usesOf makesOf outOf frac)
section
variable {P : Program} {w : World} {K : PySem.W.Frag} {mg : Str → Option Value} {base : Heap} {C W L : Addr}
/-! ### answers -/
def ans (a : Kp193.Ans) : List Int := a.num :: a.nums
theorem fr_ix0 {q : Q} : atI ([V.int q.top, V.int (q.bottom : Int)] : List V) 0 = some (.int q.top) := atI_nat (j := 0) rfl
theorem fr_ix1 {q : Q} : atI ([V.int q.top, V.int (q.bottom : Int)] : List V) 1 = some (.int (q.bottom : Int)) := atI_nat (j := 1) rfl
def spToo : Sp := fun vs H Q' _ => ∃ (a : Addr) (q : Q), vs = [.ref a] ∧ H a = some (frO q) ∧ 0 ≤ q.top ∧ Q' (.bl (!Kp193.small q)) H
theorem scToo : FnScope ["fraction"] ["fraction"] (defScope sTooGreat) := ⟨rfl, rfl, rfl, by decide +kernel, rfl, by decide +kernel, by decide +kernel⟩
theorem ok_too {f : Addr} {fd : FuncData} (F : Fun K "is_too_great" "is_too_great" sTooGreat f fd) (T : Txt K mg C W L) : FnOk P w K mg base CX0 1 f fd ["fraction"] spToo := by
  refine F.ok scToo (fun vs H Q E h => ?_) (fun cdv A outer s H vs Q E hr h => ?_)
  · obtain ⟨a, q, rfl, _⟩ := h
    rfl
  · obtain ⟨a, q, rfl, ha, hq, k⟩ := h
    refine ⟨_, pss_one (ps_ret (pe_cmp (pc_ge (pe_callB (cr_maxT rfl) (by rfl) T.max (by decide +kernel) (pa_cons (pv 0) pa_nil)) (pe_gint T.great)))), ?_⟩
    have ha' : H a = some (.tup [.int q.top, .int (q.bottom : Int)]) := ha
    refine ⟨_, rfl, a, [q.top, (q.bottom : Int)], rfl, SqT.of ha', (by show 0 < 2; decide), fun m hm hmax => ⟨_, _, rfl, rfl, ?_⟩⟩
    have h1 := hmax q.top (by simp)
    have h2 := hmax (q.bottom : Int) (by simp)
    have hi := small_iff (a := q) hq
    have e : (!Kp193.small q) = decide ((4611686018427387904 : Int) ≤ m) := by
      by_cases z : (4611686018427387904 : Int) ≤ m
      · rw [decide_eq_true z]
        cases e2 : Kp193.small q with
        | false => rfl
        | true =>
          obtain ⟨z1, z2⟩ := hi.mp e2
          simp at hm
          rcases hm with hm | hm <;> omega
      · rw [decide_eq_false z, hi.mpr ⟨by omega, by omega⟩]
        rfl
    rw [e] at k
    exact k
def spFrAns : Sp := fun vs H Q' _ => ∃ (a : Addr) (q : Q), vs = [.ref a] ∧ H a = some (frO q) ∧ 0 ≤ q.top ∧ ∀ (H' : Hp) (p : Addr), Same H H' → H p = none → H' p = some (.lst (iL (ans (Kp193.sayQ q)))) → Q' (.ref p) H'
theorem scFrAns : FnScope ["fraction"] ["fraction"] (defScope sFracAns) := ⟨rfl, rfl, rfl, by decide +kernel, rfl, by decide +kernel, by decide +kernel⟩
theorem ok_frAns {f : Addr} {fd : FuncData} (F : Fun K "fraction_answer" "fraction_answer" sFracAns f fd) (T : Txt K mg C W L) (cT : Cal P w K mg base "is_too_great" 1 ["fraction"] spToo) : FnOk P w K mg base CX0 2 f fd ["fraction"] spFrAns := by
  refine F.ok scFrAns (fun vs H Q E h => ?_) (fun cdv A outer s H vs Q E hr h => ?_)
  · obtain ⟨a, q, rfl, _⟩ := h
    rfl
  · obtain ⟨a, q, rfl, ha, hq, k⟩ := h
    refine ⟨_, pss_cons (ps_if (pt_val (pe_cal cT hr (pa_cons (pv 0) pa_nil))) (pss_one (ps_ret (pe_lst (pa_cons (pe_gint T.tooGreat) pa_nil)))) pss_nil)
      (pss_one (ps_ret (pe_lst (pa_cons (pe_gint T.done) (pa_cons (pe_ix ix_tup (pv 0) pe_int (fun _ _ => rfl)) (pa_cons (pe_ix ix_tup (pv 0) pe_int (fun _ _ => rfl)) pa_nil)))))), ?_⟩
    have ha' : H a = some (.tup [.int q.top, .int (q.bottom : Int)]) := ha
    refine ⟨_, rfl, a, q, rfl, ha, hq, _, rfl, ?_⟩
    cases e : Kp193.small q with
    | false =>
      refine iteT ⟨(by show 1 ≤ sizeLine; decide), fun p hp => k _ p (same_new hp) hp ?_⟩
      rw [upd_same]
      unfold Kp193.sayQ
      rw [if_neg (by rw [e]; decide)]
      rfl
    | true =>
      refine iteF ⟨_, rfl, a, _, _, _, rfl, rfl, SqT.of ha', fr_ix0, _, rfl, a, _, _, _, rfl, rfl, SqT.of ha', fr_ix1, (by show 3 ≤ sizeLine; decide), fun p hp => k _ p (same_new hp) hp ?_⟩
      rw [upd_same]
      unfold Kp193.sayQ
      rw [if_pos e]
      rfl
def rAns (l : List (Nat × Q)) : Kp193.Ans := if l.all (fun x => Kp193.small x.2) = false then Kp193.say (-75) else ⟨(l.length : Int), l.flatMap fun x => [(x.1 : Int), x.2.top, (x.2.bottom : Int)]⟩
theorem any_all : ∀ (s : List Nat) (qs : List Q), s.length = qs.length → ((qs.map fun q => !Kp193.small q).any id) = !((s.zip qs).all fun x => Kp193.small x.2)
  | [], [], _ => rfl
  | [], _ :: _, h => by simp at h
  | _ :: _, [], h => by simp at h
  | a :: s, q :: qs, h => by
    have ih := any_all s qs (by simpa using h)
    show ((!Kp193.small q) || ((qs.map fun q => !Kp193.small q).any id)) = !(Kp193.small q && ((s.zip qs).all fun x => Kp193.small x.2))
    rw [ih, Bool.not_and]
theorem fr_inv {qs : List Q} {i : Nat} {o : HO} (h : (qs.map frO)[i]? = some o) : ∃ q, qs[i]? = some q ∧ o = frO q := by
  rw [List.getElem?_map] at h
  cases e : qs[i]? with
  | none =>
    rw [e] at h
    cases h
  | some q =>
    rw [e] at h
    exact ⟨q, rfl, (Option.some.inj h).symm⟩
def spRunsAns : Sp := fun vs H Q' _ => ∃ (l f0 : Addr) (s : List Nat) (qs : List Q), vs = [.ref l, .ref f0] ∧ H l = some (.lst (nL s)) ∧ ObjsAt H f0 (qs.map frO) ∧ s.length = qs.length ∧ s.length ≤ 8 ∧ (∀ q ∈ qs, 0 ≤ q.top) ∧
  ∀ (H' : Hp) (p : Addr), Same H H' → H p = none → H' p = some (.lst (iL (ans (rAns (s.zip qs))))) → Q' (.ref p) H'
theorem scRunsAns : FnScope ["kinds", "fractions", "fraction", "given", "kind"] ["kinds", "fractions"] (defScope sRunsAns) := ⟨rfl, rfl, rfl, by decide +kernel, rfl, by decide +kernel, by decide +kernel⟩
theorem bkRunsAns : BlkOk ["kinds", "fractions", "fraction", "given", "kind"] (defScope sRunsAns) (lcScope (leftE (retE ((defBody sRunsAns).getD 0 (.Pass ⟨0, 0, 0, 0⟩))))) [("fraction", 2)] := blkOk_by (by decide +kernel)
theorem ok_runsAns {f : Addr} {fd : FuncData} (F : Fun K "runs_answer" "runs_answer" sRunsAns f fd) (T : Txt K mg C W L) (cT : Cal P w K mg base "is_too_great" 1 ["fraction"] spToo) : FnOk P w K mg base CX0 2 f fd ["kinds", "fractions"] spRunsAns := by
  refine F.ok scRunsAns (fun vs H Q E h => ?_) (fun cdv A outer s H vs Q E hr h => ?_)
  · obtain ⟨l, f0, s, qs, rfl, _⟩ := h
    rfl
  · obtain ⟨l, f0, s, qs, rfl, hl, ho, hlen, h8, hnn, k⟩ := h
    refine ⟨_, pss_cons (ps_if (pt_val (pe_callB (cr_any rfl) (by rfl) T.any (by decide +kernel) (pa_cons (pe_lc (own := [("fraction", 2)]) rfl scRunsAns.nd (pi_list (pv 1)) bkRunsAns
          (fun _ _ _ _ _ => pg_name (i := 2) scRunsAns.nd rfl (Or.inl rfl)) (fun _ _ _ _ _ => pts_nil) (fun _ _ _ _ _ => pe_cal cT hr (pa_cons (pv 2) pa_nil))) pa_nil)))
        (pss_one (ps_ret (pe_lst (pa_cons (pe_gint T.tooGreat) pa_nil)))) pss_nil)
      (pss_cons (ps_set (i := 3) scRunsAns.nd rfl (Or.inl rfl) (pe_lst (pa_cons (pe_callB call_len_seq (by rfl) T.len PySem.boot_len (pa_cons (pv 0) pa_nil)) pa_nil)))
      (pss_cons (ps_for PassesOwn.never rfl (pi_zip rfl T.zip (pa_cons (pv 0) (pa_cons (pv 1) pa_nil))) (pg_tup rfl (pgs_cons (pg_name (i := 4) scRunsAns.nd rfl (Or.inl rfl)) (pgs_cons (pg_name (i := 2) scRunsAns.nd rfl (Or.inl rfl)) pgs_nil)))
        (pss_one (ps_expr (pe_bm PySem.F.plainAttrs_list PySem.F.slot_list_extend PySem.F.type_list_extend mt_extend (pv 3) (pa_cons (pe_lst (pa_cons (pv 4) (pa_cons (pe_ix ix_tup (pv 2) pe_int (fun _ _ => rfl)) (pa_cons (pe_ix ix_tup (pv 2) pe_int (fun _ _ => rfl)) pa_nil)))) pa_nil)))))
      (pss_one (ps_ret (pv 3))))), ?_⟩
    obtain ⟨xs, hxs, hxl⟩ := ho.lst
    rw [List.length_map] at hxl
    refine ⟨_, rfl, f0, rfl, ⟨_, SqL.of hxs⟩, fun D hD => lc_list (K := K) (a := f0) (xs := xs) (fun i H' => Same H H' ∧ H' D = some (.lst (((qs.map fun q => !Kp193.small q).take i).map V.bl))) ⟨same_new hD, by rw [upd_same]; rfl⟩ (fun i H' _ ⟨s1, _⟩ => SqL.of (s1 _ _ hxs)) ?_ ?_⟩
    · rintro i x H' hx ⟨s1, hD'⟩
      obtain ⟨r, o, rfl, hoi, hro⟩ := ho.inv hxs hx
      obtain ⟨q, hq, rfl⟩ := fr_inv hoi
      refine ⟨rfl, _, rfl, r, q, rfl, s1 _ _ hro, hnn q (List.mem_of_getElem? hq), _, hD', ?_, same_upd s1 hD, ?_⟩
      · rw [List.length_map, List.length_take, List.length_map]
        exact lt8 (by omega)
      · rw [upd_same, take_snoc (x := !Kp193.small q) (by rw [List.getElem?_map, hq]; rfl), List.map_append]
        rfl
    · rintro H1 ⟨s1, hD'⟩
      rw [hxl, List.take_of_length_le (by rw [List.length_map]; exact Nat.le_refl _)] at hD'
      refine ⟨D, _, rfl, SqL.of hD', _, rfl, ?_⟩
      rw [any_all s qs hlen]
      cases e : (s.zip qs).all fun x => Kp193.small x.2 with
      | false =>
        refine iteT ⟨(by show 1 ≤ sizeLine; decide), fun p hp => k _ p (same_upd s1 (s1.free hp)) (s1.free hp) ?_⟩
        rw [upd_same]
        unfold rAns
        rw [if_pos e]
        rfl
      | true =>
        refine iteF ?_
        refine ⟨_, rfl, l, _, rfl, .inl (SqL.of (s1 _ _ hl)), (by show 1 ≤ sizeLine; decide), fun g hg => ?_⟩
        rw [nL_len]
        have hgH : H g = none := s1.free hg
        have zl : (s.zip qs).length = s.length := by rw [List.length_zip]; omega
        have s2 : Same H (upd H1 g (.lst [.int (s.length : Int)])) := same_upd s1 hgH
        refine ⟨_, rfl, _, rfl, l, f0, _, _, rfl, SqL.of (s2 _ _ hl), SqL.of (s2 _ _ hxs), ?_⟩
        refine for_zip (K := K) (a := l) (b := f0) (xs := nL s) (ys := xs) (by rw [nL_len]; omega) (fun i σ H' => ∃ v2 v4 : Option V, σ = [some (.ref l), some (.ref f0), v2, some (.ref g), v4] ∧ Same H H' ∧ H' g = some (.lst (iL ((s.length : Int) :: ((s.zip qs).take i).flatMap fun x => [(x.1 : Int), x.2.top, (x.2.bottom : Int)]))) ∧ i ≤ 8 ∧ (((s.zip qs).take i).flatMap fun x => [(x.1 : Int), x.2.top, (x.2.bottom : Int)]).length = 3 * i)
          ⟨_, _, rfl, s2, upd_same, Nat.zero_le _, rfl⟩ (fun i σ H' _ ⟨_, _, _, s3, _⟩ => ⟨SqL.of (s3 _ _ hl), SqL.of (s3 _ _ hxs)⟩) ?_ ?_
        · rintro i x y T0 σ H' hx hy hT ⟨v2, v4, rfl, s3, hg', hi8, hfl⟩
          obtain ⟨j, hj, rfl⟩ := nL_inv hx
          obtain ⟨r, o, rfl, hoi, hro⟩ := ho.inv hxs hy
          obtain ⟨q, hq, rfl⟩ := fr_inv hoi
          have hT0 : H T0 = none := s3.free hT
          have s4 : Same H (upd H' T0 (.tup [.int (j : Int), .ref r])) := same_upd s3 hT0
          have hr4 : (upd H' T0 (.tup [.int (j : Int), .ref r])) r = some (.tup [.int q.top, .int (q.bottom : Int)]) := s4 _ _ hro
          have hg4 : (upd H' T0 (.tup [.int (j : Int), .ref r])) g = some (.lst (iL ((s.length : Int) :: ((s.zip qs).take i).flatMap fun x => [(x.1 : Int), x.2.top, (x.2.bottom : Int)]))) := by
            rw [upd_ne (ne_of_none hg' hT)]
            exact hg'
          have hi : i < s.length := (List.getElem?_eq_some_iff.mp hj).1
          refine ⟨T0, _, rfl, SqT.of upd_same, rfl, _, _, rfl, _, _, rfl, rfl, ?_⟩
          refine ⟨_, rfl, .inl ⟨rfl, _, SqL.of hg4⟩, ?_⟩
          refine ⟨_, rfl, _, rfl, r, _, _, _, rfl, rfl, SqT.of hr4, fr_ix0, _, rfl, r, _, _, _, rfl, rfl, SqT.of hr4, fr_ix1, (by show 3 ≤ sizeLine; decide), fun z hz => ?_⟩
          have ngz : g ≠ z := ne_of_none hg4 hz
          refine ⟨g, z, _, _, rfl, rfl, by rw [upd_ne ngz]; exact hg4, upd_same, ?_, ?_⟩
          · rw [iL_len, List.length_cons, hfl]
            exact le8 (by show 3 * i + 1 + 3 ≤ 100; omega)
          · have hz2 : (s.zip qs)[i]? = some (j, q) := by
              rw [List.getElem?_zip_eq_some]
              exact ⟨hj, hq⟩
            refine ⟨_, _, rfl, same_upd (same_upd s4 (s4.free hz)) hgH, ?_, by omega, ?_⟩
            · rw [upd_same, take_snoc hz2, List.flatMap_append]
              unfold iL
              rw [List.map_cons, List.map_cons, List.map_append]
              rfl
            · rw [take_snoc hz2, List.flatMap_append, List.length_append, hfl]
              show 3 * i + 3 = 3 * (i + 1)
              omega
        · rintro σ H' ⟨v2, v4, rfl, s3, hg', _, _⟩
          refine ⟨_, rfl, k H' g s3 hgH ?_⟩
          rw [hg', nL_len, List.take_of_length_le (by omega)]
          unfold rAns
          rw [if_neg (by rw [e]; decide), zl]
          rfl
/-! ### let_out_together -/
structure FrOk (q : Q) : Prop where
  nm : Nm q
  nn : 0 ≤ q.top
  b : q.bottom < 2 ^ 2815
  t : q.top.natAbs < 2 ^ 2825
def q01 : Q := ⟨0, 1⟩
def spLetOutT (C : Addr) : Sp := fun vs H Q' _ => ∃ (d l f0 : Addr) (h : House) (s : List Nat) (qs : List Q), vs = [.ref d, .ref l, .ref f0] ∧ ToldAt C H d h ∧ H l = some (.lst (nL s)) ∧ ObjsAt H f0 (qs.map frO) ∧ s.length = qs.length ∧ s.length ≤ 8 ∧ AllTold h s ∧ (∀ q ∈ qs, FrOk q) ∧
  ∀ (H' : Hp) (p : Addr), Same H H' → H' p = some (frO ((s.zip qs).foldl (totS h) q01)) → Q' (.ref p) H'
theorem scLetOutT : FnScope ["told", "kinds", "fractions", "total", "kind", "fraction", "above"] ["told", "kinds", "fractions"] (defScope sLetOutT) := ⟨rfl, rfl, rfl, by decide +kernel, rfl, by decide +kernel, by decide +kernel⟩
theorem mulB {x y : Int} {m n : Nat} (hx : x.natAbs < 2 ^ m) (hy : y.natAbs < 2 ^ n) (h : m + n ≤ 100000) : CMulB x y := ⟨m, n, hx, hy, by omega⟩
theorem ok_letOutT {f : Addr} {fd : FuncData} (F : Fun K "let_out_together" "let_out_together" sLetOutT f fd) (T : Txt K mg C W L) (cL : Cal P w K mg base "lowest_terms" 1 ["above", "below"] spLowest) : FnOk P w K mg base CX0 2 f fd ["told", "kinds", "fractions"] (spLetOutT C) := by
  refine F.ok scLetOutT (fun vs H Q E h => ?_) (fun cdv A outer s H vs Q E hr h => ?_)
  · obtain ⟨d, l, f0, h, s, qs, rfl, _⟩ := h
    rfl
  · obtain ⟨d, l, f0, h, s, qs, rfl, t, hl, ho, hlen, h8, al, hfr, k⟩ := h
    refine ⟨_, pss_cons (ps_set (i := 3) scLetOutT.nd rfl (Or.inl rfl) (pe_tup (pa_cons pe_int (pa_cons pe_int pa_nil))))
      (pss_cons (ps_for PassesOwn.never rfl (pi_zip rfl T.zip (pa_cons (pv 1) (pa_cons (pv 2) pa_nil))) (pg_tup rfl (pgs_cons (pg_name (i := 4) scLetOutT.nd rfl (Or.inl rfl)) (pgs_cons (pg_name (i := 5) scLetOutT.nd rfl (Or.inl rfl)) pgs_nil)))
        (pss_cons (ps_set (i := 6) scLetOutT.nd rfl (Or.inl rfl) (pe_op op_add (pe_op op_mulB (pe_ix ix_tup (pv 3) pe_int (fun _ _ => rfl)) (pe_ix ix_tup (pv 5) pe_int (fun _ _ => rfl)))
            (pe_op op_mulB (pe_op op_mulB (pe_fld (pe_dget (hu_of hr) (pv 0) (pv 4) (fun _ _ => rfl)) rfl) (pe_ix ix_tup (pv 5) pe_int (fun _ _ => rfl))) (pe_ix ix_tup (pv 3) pe_int (fun _ _ => rfl)))))
        (pss_one (ps_set (i := 3) scLetOutT.nd rfl (Or.inl rfl) (pe_cal cL hr (pa_cons (pv 6) (pa_cons (pe_op op_mulB (pe_ix ix_tup (pv 3) pe_int (fun _ _ => rfl)) (pe_ix ix_tup (pv 5) pe_int (fun _ _ => rfl))) pa_nil)))))))
      (pss_one (ps_ret (pv 3)))), ?_⟩
    obtain ⟨xs, hxs, hxl⟩ := ho.lst
    rw [List.length_map] at hxl
    refine ⟨(by show 2 ≤ sizeLine; decide), fun t0 ht0 => ?_⟩
    have s0 : Same H (upd H t0 (.tup [.int 0, .int 1])) := same_new ht0
    refine ⟨_, rfl, _, rfl, l, f0, _, _, rfl, SqL.of (s0 _ _ hl), SqL.of (s0 _ _ hxs), ?_⟩
    refine for_zip (K := K) (a := l) (b := f0) (xs := nL s) (ys := xs) (by rw [nL_len]; omega) (fun i σ H' => ∃ (tt : Addr) (v4 v5 v6 : Option V), σ = [some (.ref d), some (.ref l), some (.ref f0), some (.ref tt), v4, v5, v6] ∧ Same H H' ∧ H' tt = some (frO (((s.zip qs).take i).foldl (totS h) q01)) ∧
        Nm (((s.zip qs).take i).foldl (totS h) q01) ∧ 0 ≤ (((s.zip qs).take i).foldl (totS h) q01).top ∧ TSz i (((s.zip qs).take i).foldl (totS h) q01))
      ⟨t0, none, none, none, rfl, s0, upd_same, ⟨Nat.one_pos, Nat.coprime_one_right _⟩, Int.le_refl _, (by show 1 < 2; decide), (by show 0 < 2; decide)⟩ (fun i σ H' _ ⟨_, _, _, _, _, s3, _⟩ => ⟨SqL.of (s3 _ _ hl), SqL.of (s3 _ _ hxs)⟩) ?_ ?_
    · rintro i x y T0 σ H' hx hy hT ⟨tt, v4, v5, v6, rfl, s3, htt, hnm, hnn, hsz⟩
      obtain ⟨j, hj, rfl⟩ := nL_inv hx
      obtain ⟨r, o, rfl, hoi, hro⟩ := ho.inv hxs hy
      obtain ⟨q, hq, rfl⟩ := fr_inv hoi
      have fq := hfr q (List.mem_of_getElem? hq)
      obtain ⟨hj8, m, hm⟩ := al j (List.mem_of_getElem? hj)
      have hz2 : (s.zip qs)[i]? = some (j, q) := by
        rw [List.getElem?_zip_eq_some]
        exact ⟨hj, hq⟩
      have hi : i < s.length := (List.getElem?_eq_some_iff.mp hj).1
      generalize ea : ((s.zip qs).take i).foldl (totS h) q01 = a at htt hnm hnn hsz
      have estep : ((s.zip qs).take (i + 1)).foldl (totS h) q01 = totS h a (j, q) := by
        rw [take_snoc hz2, List.foldl_append, ea]
        rfl
      have hT0 : H T0 = none := s3.free hT
      have s4 : Same H (upd H' T0 (.tup [.int (j : Int), .ref r])) := same_upd s3 hT0
      generalize hH4 : upd H' T0 (.tup [.int (j : Int), .ref r]) = H4 at s4
      have hr4 : H4 r = some (.tup [.int q.top, .int (q.bottom : Int)]) := s4 _ _ hro
      have ht4 : H4 tt = some (.tup [.int a.top, .int (a.bottom : Int)]) := by
        rw [← hH4, upd_ne (ne_of_none htt hT)]
        exact htt
      have hT4 : H4 T0 = some (.tup [.int (j : Int), .ref r]) := by
        rw [← hH4]
        exact upd_same
      obtain ⟨ad, hg, dx, u, h1, h2⟩ := (t.same s4).at hm
      obtain ⟨z1, z2⟩ := hsz
      have hout := out_le t.ok j
      have eout := out_of hm
      have bo : ((m.out : Nat) : Int).natAbs < 2 ^ 20 := by
        rw [Int.natAbs_natCast]
        show m.out < 1048576
        omega
      have bq : ((q.bottom : Nat) : Int).natAbs < 2 ^ 2815 := by
        rw [Int.natAbs_natCast]
        exact fq.b
      have ba : ((a.bottom : Nat) : Int).natAbs < 2 ^ (3000 * i + 1) := by
        rw [Int.natAbs_natCast]
        exact z1
      have boq : ((m.out : Int) * q.top).natAbs < 2 ^ (20 + 2825) := by
        rw [Int.natAbs_mul, Nat.pow_add]
        exact Nat.mul_lt_mul_of_lt_of_lt bo fq.t
      refine ⟨T0, _, rfl, SqT.of hT4, rfl, _, _, rfl, _, _, rfl, rfl, ?_⟩
      refine ⟨_, rfl, tt, _, _, _, rfl, rfl, SqT.of ht4, fr_ix0, _, rfl, r, _, _, _, rfl, rfl, SqT.of hr4, fr_ix1, _, _, rfl, rfl, mulB z2 bq (by omega), ?_⟩
      refine ⟨_, rfl, _, rfl, d, _, rfl, hg, ad, C, dx, _, _, rfl, h1, T.clM, T.nOut, rfl, _, rfl, r, _, _, _, rfl, rfl, SqT.of hr4, fr_ix0, _, _, rfl, rfl, mulB bo fq.t (by omega), ?_⟩
      refine ⟨_, rfl, tt, _, _, _, rfl, rfl, SqT.of ht4, fr_ix1, _, _, rfl, rfl, mulB boq ba (by omega), _, _, rfl, rfl, ?_⟩
      refine ⟨_, rfl, _, rfl, tt, _, _, _, rfl, rfl, SqT.of ht4, fr_ix1, _, rfl, r, _, _, _, rfl, rfl, SqT.of hr4, fr_ix1, _, _, rfl, rfl, mulB ba bq (by omega), ?_⟩
      have p1 : 0 ≤ a.top * (q.bottom : Int) := Int.mul_nonneg hnn (by omega)
      have p2 : 0 ≤ (m.out : Int) * q.top * (a.bottom : Int) := Int.mul_nonneg (Int.mul_nonneg (by omega) fq.nn) (by omega)
      have p3 : 0 ≤ a.top * (q.bottom : Int) + (m.out : Int) * q.top * (a.bottom : Int) := by omega
      have gq := tot_gcd (A := a.top) (o := (m.out : Int)) (p := q.top) (B := a.bottom) (q := q.bottom) hnm.cop fq.nm.pos
      refine ⟨(a.top * (q.bottom : Int) + (m.out : Int) * q.top * (a.bottom : Int)).toNat, a.bottom * q.bottom, by rw [Int.toNat_of_nonneg p3]; rfl, Nat.mul_pos hnm.pos fq.nm.pos, ?_, fun H5 r' s5 hf5 hr5 => ?_⟩
      · have e : (a.top * (q.bottom : Int) + (m.out : Int) * q.top * (a.bottom : Int)).toNat = (a.top * (q.bottom : Int) + (m.out : Int) * q.top * (a.bottom : Int)).natAbs := by omega
        rw [e]
        refine Nat.lt_of_le_of_lt gq (Nat.lt_of_lt_of_le (Nat.mul_lt_mul_of_lt_of_lt fq.b fq.b) ?_)
        rw [← Nat.pow_add]
        exact Nat.pow_le_pow_right (by decide) (by decide)
      · rw [Int.toNat_of_nonneg p3, ← eout] at hr5
        refine ⟨r', _, _, _, rfl, s4.trans s5, ?_, ?_, ?_, ?_⟩
        · rw [estep]
          exact hr5
        · rw [estep]
          exact totS_nm hnm fq.nm
        · rw [estep]
          exact totS_nn hnm fq.nm hnn fq.nn
        · rw [estep]
          exact tot_sz t.ok hnm fq.nm fq.b fq.t ⟨z1, z2⟩
    · rintro σ H' ⟨tt, v4, v5, v6, rfl, s3, htt, _⟩
      rw [nL_len, List.take_of_length_le (by rw [List.length_zip]; omega)] at htt
      exact ⟨_, rfl, k H' tt s3 htt⟩
end
end Pt
end
section
set_option Elab.async false
set_option linter.all false
set_option maxRecDepth 100000
set_option maxHeartbeats 2000000
namespace Pt
open PySem PySem.Spec PyProof.Rows L2 Ru Pm
open Kp193 (Q House Making making usesOf makesOf outOf frac)
section
variable {P : Program} {w : World} {K : PySem.W.Frag} {mg : Str → Option Value} {base : Heap} {C W L : Addr}
/-! ### the object -/
def WsAt (C W : Addr) (H : Hp) (ws : Addr) (h : House) : Prop := ∃ dx d, H ws = some (.ins W dx [("told", .ref d)]) ∧ ToldAt C H d h
theorem WsAt.same {H H' : Hp} {ws : Addr} {h : House} (s : Same H H') (x : WsAt C W H ws h) : WsAt C W H' ws h := let ⟨dx, d, h1, h2⟩ := x; ⟨dx, d, s _ _ h1, h2.same s⟩
/-- all but the object and dicts stays -/
def Keep (H H' : Hp) (ws : Addr) : Prop := ∀ b o, H b = some o → b ≠ ws → (∀ kvs, o ≠ .dK kvs) → H' b = some o
theorem same_keep {H H' : Hp} (s : Same H H') (ws : Addr) : Keep H H' ws := fun b o e _ _ => s b o e
theorem making_empty (k : Nat) : making Kp193.empty k = none := by
  unfold making Kp193.empty
  rw [List.getD_eq_getElem?_getD, List.getElem?_replicate]
  split <;> rfl
theorem house_empty : HouseOk Kp193.empty := ⟨List.length_replicate .., fun k m e => by
  rw [making_empty] at e
  cases e⟩
theorem told_empty {H : Hp} {d : Addr} (h : H d = some (.dK [])) : ToldAt C H d Kp193.empty :=
  ⟨⟨[], h, List.nodup_nil, fun y hy => by simp at hy, fun k _ => rfl, fun k m e => by rw [making_empty] at e; cases e⟩, house_empty⟩
theorem making_set {h : House} {k : Nat} (m : Option Making) (hl : h.length = 8) (hk : k < 8) (j : Nat) : making (h.set k m) j = if j = k then m else making h j := by
  unfold making
  rw [List.getD_eq_getElem?_getD, List.getD_eq_getElem?_getD, List.getElem?_set]
  by_cases e : j = k
  · subst e
    rw [if_pos rfl, if_pos (by omega), if_pos rfl]
    rfl
  · rw [if_neg (fun z => e z.symm), if_neg e]
theorem house_set {h : House} {k : Nat} {m : Making} (H : HouseOk h) (hk : k < 8) (mo : MkOk m) : HouseOk (h.set k (some m)) := by
  refine ⟨by rw [List.length_set]; exact H.len, fun j m' e => ?_⟩
  rw [making_set _ H.len hk] at e
  by_cases q : j = k
  · rw [if_pos q] at e
    cases e
    exact mo
  · rw [if_neg q] at e
    exact H.ok j m' e
theorem house_unset {h : House} {k : Nat} (H : HouseOk h) (hk : k < 8) : HouseOk (h.set k none) := by
  refine ⟨by rw [List.length_set]; exact H.len, fun j m' e => ?_⟩
  rw [making_set _ H.len hk] at e
  by_cases q : j = k
  · rw [if_pos q] at e
    cases e
  · rw [if_neg q] at e
    exact H.ok j m' e
theorem MkAt.upd {H : Hp} {a d : Addr} {k : Nat} {m : Making} {kvs : List (Key × V)} {o : HO} (hd : H d = some (.dK kvs)) (x : MkAt C H a k m) : MkAt C (L2.upd H d o) a k m := by
  obtain ⟨dx, u, h1, h2⟩ := x
  refine ⟨dx, u, ?_, ?_⟩
  · rw [upd_ne (ne_of h1 hd (by intro z; cases z))]
    exact h1
  · rw [upd_ne (ne_of h2 hd (by intro z; cases z))]
    exact h2
theorem putK_keys {kvs : List (Key × V)} {k : Key} {v y : V} (e : valV kvs k = some v) : (putK kvs k y).map (·.1) = kvs.map (·.1) := by
  unfold putK
  rw [valV_any, e, if_pos (show (some v).isSome = true from rfl), List.map_map]
  refine List.map_congr_left fun p _ => ?_
  show (if p.1 = k then (p.1, y) else p).1 = p.1
  split <;> rfl
theorem keys_nd {kvs : List (Key × V)} {k : Key} (y : V) (nd : (kvs.map (·.1)).Nodup) : ((putK kvs k y).map (·.1)).Nodup := by
  cases e : valV kvs k with
  | none => exact nd_putK y nd e
  | some v =>
    rw [putK_keys e]
    exact nd
theorem keys_in {kvs : List (Key × V)} {k : Nat} (y : V) (hk : k < 8) (hb : ∀ y ∈ kvs.map (·.1), ∃ k : Nat, k < 8 ∧ y = Sum.inl (k : Int)) : ∀ z ∈ (putK kvs (keyI k) y).map (·.1), ∃ k : Nat, k < 8 ∧ z = Sum.inl (k : Int) := by
  intro z hz
  cases e : valV kvs (keyI k) with
  | none =>
    rw [putK_new y e, List.map_append] at hz
    rcases List.mem_append.mp hz with q | q
    · exact hb z q
    · exact ⟨k, hk, List.mem_singleton.mp q⟩
  | some v =>
    rw [putK_keys e] at hz
    exact hb z hz
theorem keys_len {kvs : List (Key × V)} (nd : (kvs.map (·.1)).Nodup) (hb : ∀ y ∈ kvs.map (·.1), ∃ k : Nat, k < 8 ∧ y = Sum.inl (k : Int)) : kvs.length ≤ 8 := by
  have := nodup_len (m := (List.range 8).map keyI) nd fun x hx => by
    obtain ⟨k, hk, e⟩ := hb x hx
    exact List.mem_map.mpr ⟨k, List.mem_range.mpr hk, e.symm⟩
  simpa using this
theorem keyI_inj {j k : Nat} (h : keyI j = keyI k) : j = k := by
  have : (j : Int) = (k : Int) := Sum.inl.inj h
  omega
theorem told_put {H : Hp} {d x : Addr} {h : House} {k : Nat} {m : Making} (t : ToldAt C H d h) (hk : k < 8) (mx : MkAt C H x k m) (mo : MkOk m) : ∃ kvs : List (Key × V), H d = some (.dK kvs) ∧ kvs.length ≤ 8 ∧ ToldAt C (upd H d (.dK (putK kvs (keyI k) (.ref x)))) d (h.set k (some m)) := by
  obtain ⟨kvs, h1, h2, h3, h4, h5⟩ := t.ex
  refine ⟨kvs, h1, keys_len h2 h3, ⟨_, upd_same, keys_nd _ h2, keys_in _ hk h3, fun j e => ?_, fun j m' e => ?_⟩, house_set t.ok hk mo⟩
  · rw [making_set _ t.ok.len hk] at e
    by_cases q : j = k
    · rw [if_pos q] at e
      cases e
    · rw [if_neg q] at e
      show valV (putK kvs (keyI k) (.ref x)) (keyI j) = none
      rw [valV_put, if_neg (fun z => q (keyI_inj z))]
      exact h4 j e
  · rw [making_set _ t.ok.len hk] at e
    by_cases q : j = k
    · rw [if_pos q] at e
      cases e
      subst q
      refine ⟨x, ?_, mx.upd h1⟩
      show valV (putK kvs (keyI j) (.ref x)) (keyI j) = some (.ref x)
      rw [valV_put, if_pos rfl]
    · rw [if_neg q] at e
      obtain ⟨a, q1, q2⟩ := h5 j m' e
      refine ⟨a, ?_, q2.upd h1⟩
      show valV (putK kvs (keyI k) (.ref x)) (keyI j) = some (.ref a)
      rw [valV_put, if_neg (fun z => q (keyI_inj z))]
      exact q1
theorem valV_drop (k j : Key) : ∀ kvs : List (Key × V), valV (dropK kvs k) j = if j = k then none else valV kvs j
  | [] => by
    show none = if j = k then none else none
    split <;> rfl
  | p :: r => by
    have ih := valV_drop k j r
    by_cases e : p.1 = k
    · rw [dropK_pos e, ih]
      by_cases q : j = k
      · rw [if_pos q, if_pos q]
      · rw [if_neg q, if_neg q, valV_neg (fun z => q (z.symm.trans e))]
    · rw [dropK_neg e]
      by_cases q : p.1 = j
      · rw [valV_pos q, valV_pos q, if_neg (fun z => e (q.trans z))]
      · rw [valV_neg q, valV_neg q, ih]
theorem told_drop {H : Hp} {d : Addr} {h : House} {k : Nat} {m : Making} (t : ToldAt C H d h) (hk : k < 8) (hm : making h k = some m) : ∃ (kvs : List (Key × V)) (v : V), H d = some (.dK kvs) ∧ valV kvs (keyI k) = some v ∧ ToldAt C (upd H d (.dK (dropK kvs (keyI k)))) d (h.set k none) := by
  obtain ⟨kvs, h1, h2, h3, h4, h5⟩ := t.ex
  obtain ⟨a, q1, q2⟩ := h5 k m hm
  refine ⟨kvs, _, h1, q1, ⟨_, upd_same, nd_dropK h2, fun y hy => ?_, fun j e => ?_, fun j m' e => ?_⟩, house_unset t.ok hk⟩
  · obtain ⟨p, hp, rfl⟩ := List.mem_map.mp hy
    exact h3 _ (List.mem_map.mpr ⟨p, dropK_mem hp, rfl⟩)
  · rw [making_set _ t.ok.len hk] at e
    show valV (dropK kvs (keyI k)) (keyI j) = none
    rw [valV_drop]
    by_cases q : j = k
    · rw [if_pos (by rw [q])]
    · rw [if_neg q] at e
      rw [if_neg (fun z => q (keyI_inj z))]
      exact h4 j e
  · rw [making_set _ t.ok.len hk] at e
    by_cases q : j = k
    · rw [if_pos q] at e
      cases e
    · rw [if_neg q] at e
      obtain ⟨a', r1, r2⟩ := h5 j m' e
      refine ⟨a', ?_, r2.upd h1⟩
      show valV (dropK kvs (keyI k)) (keyI j) = some (.ref a')
      rw [valV_drop, if_neg (fun z => q (keyI_inj z))]
      exact r1
/-- the call is answered -/
def Answers (C W ws : Addr) (H : Hp) (h : House) (c : Kp193.Call) (Q' : VK) : Prop := ∀ (H' : Hp) (p : Addr) (h' : House), (Kp193.step (some h) c).1 = some h' → WsAt C W H' ws h' → Keep H H' ws → H p = none → H' p = some (.lst (iL (ans (Kp193.step (some h) c).2))) → Q' (.ref p) H'
/-! ### Workshop.__init__, begin -/
def spWInit (C W : Addr) : Sp := fun vs H Q' _ => ∃ (p dx : Addr), vs = [.ref p] ∧ H p = some (.ins W dx []) ∧ ∀ H' : Hp, WsAt C W H' p Kp193.empty → (∀ b o, H b = some o → b ≠ p → H' b = some o) → Q' .non H'
theorem scWInit : FnScope ["self"] ["self"] (defScope sWInit) := ⟨rfl, rfl, rfl, by decide +kernel, rfl, by decide +kernel, by decide +kernel⟩
theorem ok_wInit {f : Addr} {fd : FuncData} (F : Fun K "__init__" "Workshop.__init__" sWInit f fd) (T : Txt K mg C W L) : FnOk P w K mg base CX0 1 f fd ["self"] (spWInit C W) := by
  refine F.ok scWInit (fun vs H Q E h => ?_) (fun cdv A outer s H vs Q E hr h => ?_)
  · obtain ⟨p, dx, rfl, _⟩ := h
    rfl
  · obtain ⟨p, dx, rfl, hp, k⟩ := h
    refine ⟨_, pss_one (ps_fld (pv 0) pe_dnewK rfl), ?_⟩
    intro d hd
    have npd : p ≠ d := ne_of_none hp hd
    refine ⟨_, rfl, p, W, dx, [], rfl, by rw [upd_ne npd]; exact hp, T.clW, T.nTold, (by show 0 < 1000; decide), ?_⟩
    refine k _ ⟨dx, d, upd_same, told_empty (by rw [upd_ne (fun z => npd z.symm)]; exact upd_same)⟩ fun b o e hb => ?_
    rw [upd_ne hb, upd_ne (ne_of_none e hd)]
    exact e
def spBegin (C W : Addr) : Sp := fun vs H Q' _ => ∃ (ws : Addr) (h : House), vs = [.ref ws] ∧ WsAt C W H ws h ∧ Answers C W ws H h .begin_ Q'
theorem scBegin : FnScope ["self"] ["self"] (defScope sBegin) := ⟨rfl, rfl, rfl, by decide +kernel, rfl, by decide +kernel, by decide +kernel⟩
theorem ok_begin {f : Addr} {fd : FuncData} (F : Fun K "begin" "Workshop.begin" sBegin f fd) (T : Txt K mg C W L) : FnOk P w K mg base CX0 1 f fd ["self"] (spBegin C W) := by
  refine F.ok scBegin (fun vs H Q E h => ?_) (fun cdv A outer s H vs Q E hr h => ?_)
  · obtain ⟨ws, h, rfl, _⟩ := h
    rfl
  · obtain ⟨ws, h, rfl, ⟨dx, d0, hw, t⟩, k⟩ := h
    refine ⟨_, pss_cons (ps_fld (pv 0) pe_dnewK rfl) (pss_one (ps_ret (pe_lst (pa_cons (pe_gint T.done) pa_nil)))), ?_⟩
    intro d hd
    have npd : ws ≠ d := ne_of_none hw hd
    refine ⟨_, rfl, ws, W, dx, _, rfl, by rw [upd_ne npd]; exact hw, T.clW, T.nTold, (by show 1 < 1000; decide), (by show 1 ≤ sizeLine; decide), fun p hp => ?_⟩
    have hdT : (upd (upd H d (.dK [])) ws (.ins W dx (putF "told" (.ref d) [("told", .ref d0)]))) d = some (.dK []) := by
      rw [upd_ne (fun z => npd z.symm)]
      exact upd_same
    have npw : ws ≠ p := ne_of_none upd_same hp
    have npd2 : d ≠ p := ne_of_none hdT hp
    have hpH : H p = none := by
      rw [upd_ne (fun z => npw z.symm), upd_ne (fun z => npd2 z.symm)] at hp
      exact hp
    refine k _ p Kp193.empty rfl ⟨dx, d, by rw [upd_ne npw]; exact upd_same, told_empty (by rw [upd_ne npd2]; exact hdT)⟩ (fun b o e hb _ => ?_) hpH (by rw [upd_same]; rfl)
    rw [upd_ne (ne_of_none e hpH), upd_ne hb, upd_ne (ne_of_none e hd)]
    exact e
/-! ### tell -/
def castL (us : List Nat) : List Int := us.map fun (x : Nat) => (x : Int)
theorem usesOk_cast (us : List Nat) : usesOk (castL us) = (decide (us.length = 8) && us.all fun x => decide (x ≤ 1000)) := by
  unfold usesOk castL
  rw [List.length_map, List.all_map]
  congr 1
  refine congrArg (us.all ·) ?_
  funext x
  show decide ((x : Int) ≤ 1000) = decide (x ≤ 1000)
  by_cases h : x ≤ 1000
  · rw [decide_eq_true h, decide_eq_true (by omega)]
  · rw [decide_eq_false h, decide_eq_false (by omega)]
def TellOk (k m o : Nat) (us : List Nat) : Prop := k < 8 ∧ 1 ≤ m ∧ m ≤ 1000 ∧ o ≤ 1000000 ∧ us.length = 8 ∧ ∀ x ∈ us, x ≤ 1000
theorem tellOk_iff {k m o : Nat} {us : List Nat} : TellOk k m o us ↔ k < 8 ∧ makOk (m : Int) (o : Int) (castL us) = true := by
  unfold TellOk makOk
  rw [usesOk_cast, Bool.and_eq_true, Bool.and_eq_true, Bool.and_eq_true, decide_eq_true_iff, decide_eq_true_iff, decide_eq_true_iff, List.all_eq_true]
  simp only [decide_eq_true_iff]
  constructor
  · rintro ⟨h1, h2, h3, h4, h5, h6⟩
    exact ⟨h1, ⟨by omega, by omega⟩, by omega, h5, h6⟩
  · rintro ⟨h1, ⟨h2, h3⟩, h4, h5, h6⟩
    exact ⟨h1, by omega, by omega, by omega, h5, h6⟩
theorem step_tell {h : House} {k m o : Nat} {us : List Nat} (x : TellOk k m o us) : Kp193.step (some h) (.tell k m o us) = (some (h.set k (some ⟨m, o, us⟩)), Kp193.say 0) := by
  obtain ⟨h1, h2, h3, h4, h5, h6⟩ := x
  show (if _ then _ else _) = _
  rw [if_neg]
  rintro (z | z | z | z | z | z)
  · exact absurd (show 8 ≤ k from z) (by omega)
  · omega
  · exact absurd (show 1000 < m from z) (by omega)
  · exact absurd (show 1000000 < o from z) (by omega)
  · exact z h5
  · obtain ⟨x, hx, e⟩ := List.any_eq_true.mp z
    have e1 : 1000 < x := of_decide_eq_true e
    have := h6 x hx
    omega
theorem step_tell_no {h : House} {k m o : Nat} {us : List Nat} (x : ¬ TellOk k m o us) : Kp193.step (some h) (.tell k m o us) = (some h, Kp193.say (-22)) := by
  show (if _ then _ else _) = _
  rw [if_pos]
  refine Classical.byContradiction fun z => x ?_
  have z1 : ¬ 8 ≤ k := fun q => z (.inl q)
  have z2 : ¬ m < 1 := fun q => z (.inr (.inl q))
  have z3 : ¬ 1000 < m := fun q => z (.inr (.inr (.inl q)))
  have z4 : ¬ 1000000 < o := fun q => z (.inr (.inr (.inr (.inl q))))
  have z5 : us.length = 8 := Classical.byContradiction fun q => z (.inr (.inr (.inr (.inr (.inl q)))))
  refine ⟨by omega, by omega, by omega, by omega, z5, fun y hy => Classical.byContradiction fun q => z (.inr (.inr (.inr (.inr (.inr ?_)))))⟩
  exact List.any_eq_true.mpr ⟨y, hy, decide_eq_true (show 1000 < y by omega)⟩
def spTell (C W : Addr) : Sp := fun vs H Q' _ => ∃ (ws u : Addr) (h : House) (k m o : Nat) (us : List Nat), vs = [.ref ws, .int k, .int m, .int o, .ref u] ∧ WsAt C W H ws h ∧ H u = some (.lst (nL us)) ∧ Answers C W ws H h (.tell k m o us) Q'
theorem scTell : FnScope ["self", "k", "makes", "out", "uses"] ["self", "k", "makes", "out", "uses"] (defScope sTell) := ⟨rfl, rfl, rfl, by decide +kernel, rfl, by decide +kernel, by decide +kernel⟩
theorem ok_tell {f : Addr} {fd : FuncData} (F : Fun K "tell" "Workshop.tell" sTell f fd) (T : Txt K mg C W L) (cK : Cal P w K mg base "is_kind" 1 ["k"] spIsKind) (cM : Cal P w K mg base "is_making" 2 ["makes", "out", "uses"] (spIsMaking K))
    (cN : NCal P w K mg base C "Making" 1 ["self", "kind", "makes", "out", "uses"] (spMInit K C)) : FnOk P w K mg base CX0 3 f fd ["self", "k", "makes", "out", "uses"] (spTell C W) := by
  refine F.ok scTell (fun vs H Q E h => ?_) (fun cdv A outer s H vs Q E hr h => ?_)
  · obtain ⟨ws, u, h, k, m, o, us, rfl, _⟩ := h
    rfl
  · obtain ⟨ws, u, h, k, m, o, us, rfl, hws, hu, kk⟩ := h
    refine ⟨_, pss_cons (ps_if (pw_or (pt_not (pt_val (pe_cal cK (hr.mono (by decide)) (pa_cons (pv 1) pa_nil)))) (pw_or1 (pt_not (pt_val (pe_cal cM hr (pa_cons (pv 2) (pa_cons (pv 3) (pa_cons (pv 4) pa_nil)))))))).pt (pss_one (ps_ret (pe_lst (pa_cons (pe_gint T.wrong) pa_nil)))) pss_nil)
      (pss_cons (ps_dput (hu_of hr) (pe_fld (pv 0) rfl) (pv 1) (pe_ncal cN hr (pa_cons (pv 1) (pa_cons (pv 2) (pa_cons (pv 3) (pa_cons (pv 4) pa_nil))))) rfl)
      (pss_one (ps_ret (pe_lst (pa_cons (pe_gint T.done) pa_nil))))), ?_⟩
    have no : ¬ TellOk k m o us → ([V.int (-22)] : List V).length ≤ sizeLine ∧ ∀ p, H p = none → Q (.ref p) (upd H p (.lst [.int (-22)])) := fun x => by
      refine ⟨(by show 1 ≤ sizeLine; decide), fun p hp => kk _ p h (by rw [step_tell_no x]) (hws.same (same_new hp)) (same_keep (same_new hp) ws) hp ?_⟩
      rw [upd_same, step_tell_no x]
      rfl
    have hu' : SqL K H u (iL (castL us)) := SqL.of (by rw [hu]; exact congrArg (fun z => some (HO.lst z)) (nL_cast us))
    refine ⟨_, rfl, _, rfl, _, rfl, ?_⟩
    by_cases k8 : k < 8
    · rw [decide_eq_true (show (k : Int) < 8 by omega)]
      refine iteF ⟨_, rfl, _, rfl, _, rfl, (m : Int), (o : Int), u, castL us, rfl, hu', _, rfl, ?_⟩
      cases e : makOk (m : Int) (o : Int) (castL us) with
      | false => exact iteT (no fun x => by
          have := (tellOk_iff.mp x).2
          rw [e] at this
          cases this)
      | true =>
        have ok : TellOk k m o us := tellOk_iff.mpr ⟨k8, e⟩
        refine iteF ⟨_, rfl, _, rfl, _, rfl, _, rfl, fun x dx nx ndx nex => ?_⟩
        have nux : u ≠ x := ne_of_none hu nx
        have nud : u ≠ dx := ne_of_none hu ndx
        refine ⟨x, dx, (k : Int), (m : Int), (o : Int), u, nL us, rfl, upd_same, SqL.of (by rw [upd_ne nux, upd_ne nud]; exact hu), fun H1 u1 h1 h2 h3 => ⟨rfl, ?_⟩⟩
        have s1 : Same H H1 := Same.made nx ndx h3
        obtain ⟨dxw, d, hw, t⟩ := hws.same s1
        obtain ⟨k1, k2, k3, k4, k5, k6⟩ := ok
        obtain ⟨kvs, hd, hl, t2⟩ := told_put (x := x) (m := ⟨m, o, us⟩) t k1 ⟨dx, u1, h1, h2⟩ ⟨k2, k3, k4, k5, k6⟩
        refine ⟨_, rfl, ws, W, dxw, _, _, rfl, hw, T.clW, T.nTold, rfl, _, rfl, d, _, rfl, DPut.k (k := keyI k) hd (lt8 (by omega)), (by show 1 ≤ sizeLine; decide), fun p hp => ?_⟩
        have nwd : ws ≠ d := ne_of hw hd (by intro z; cases z)
        have ndp : d ≠ p := ne_of_none upd_same hp
        have hp1 : H1 p = none := by
          rw [upd_ne (fun z => ndp z.symm)] at hp
          exact hp
        refine kk _ p (h.set k (some ⟨m, o, us⟩)) (by rw [step_tell ⟨k1, k2, k3, k4, k5, k6⟩]) ⟨dxw, d, ?_, t2.same (same_new hp)⟩ (fun b ob e hb hnd => ?_) (s1.free hp1) ?_
        · rw [upd_ne (ne_of_none hw hp1), upd_ne nwd]
          exact hw
        · have e1 := s1 _ _ e
          rw [upd_ne (ne_of_none e1 hp1), upd_ne (ne_of e1 hd (hnd kvs))]
          exact e1
        · rw [upd_same, step_tell ⟨k1, k2, k3, k4, k5, k6⟩]
          rfl
    · rw [decide_eq_false (show ¬ (k : Int) < 8 by omega)]
      exact iteT (iteT (no fun x => k8 x.1))
end
end Pt
end
section
set_option Elab.async false
set_option linter.all false
set_option maxRecDepth 100000
set_option maxHeartbeats 2000000
namespace Pt
open PySem PySem.Spec PyProof.Rows L2 Ru Pm
open Kp193 (Q House Making making usesOf makesOf outOf frac)
section
variable {P : Program} {w : World} {K : PySem.W.Frag} {mg : Str → Option Value} {base : Heap} {C W L : Addr}
/-! ### refusals -/
theorem nt_no {p A B : Prop} [Decidable p] (e : p) (h : B) : if (!decide p) = true then A else B := by
  rw [decide_eq_true e]
  exact iteF h
theorem nt_yes {p A B : Prop} [Decidable p] (e : ¬ p) (h : A) : if (!decide p) = true then A else B := by
  rw [decide_eq_false e]
  exact iteT h
def refK (h : House) (k : Nat) : Int := if 8 ≤ k then -22 else if (making h k).isNone = true then -2 else 0
def refQ (h : House) (k : Nat) : Int := if 8 ≤ k then -22 else if (making h k).isNone = true then -2 else if Kp193.told h (Kp193.part h k) = false then -61 else 0
def refO (h : House) (k n : Nat) : Int := if refQ h k ≠ 0 then refQ h k else if 1 ≤ n ∧ n ≤ 1000000 then 0 else -22
theorem refK_zero {h : House} {k : Nat} (e : refK h k = 0) : k < 8 ∧ ∃ m, making h k = some m := by
  unfold refK at e
  by_cases h8 : 8 ≤ k
  · rw [if_pos h8] at e
    exact absurd e (by decide)
  · rw [if_neg h8] at e
    by_cases hn : (making h k).isNone = true
    · rw [if_pos hn] at e
      exact absurd e (by decide)
    · refine ⟨by omega, ?_⟩
      cases em : making h k with
      | none => exact absurd (by rw [em]; rfl) hn
      | some m => exact ⟨m, rfl⟩
theorem refQ_refK {h : House} {k : Nat} (e : refK h k ≠ 0) : refQ h k = refK h k := by
  unfold refK at e ⊢
  unfold refQ
  by_cases h8 : 8 ≤ k
  · rw [if_pos h8, if_pos h8]
  · rw [if_neg h8] at e ⊢
    rw [if_neg h8]
    by_cases hn : (making h k).isNone = true
    · rw [if_pos hn, if_pos hn]
    · rw [if_neg hn] at e
      exact absurd rfl e
theorem refQ_of {h : House} {k : Nat} (e : refK h k = 0) : refQ h k = if Kp193.told h (Kp193.part h k) = false then -61 else 0 := by
  obtain ⟨h8, m, hm⟩ := refK_zero e
  unfold refQ
  rw [if_neg (by omega), hm, if_neg (by simp)]
theorem refQ_zero {h : House} {k : Nat} (e : refQ h k = 0) : k < 8 ∧ (∃ m, making h k = some m) ∧ Kp193.told h (Kp193.part h k) = true := by
  have e1 : refK h k = 0 := Classical.byContradiction fun z => z ((refQ_refK z).symm.trans e)
  obtain ⟨h8, hm⟩ := refK_zero e1
  refine ⟨h8, hm, ?_⟩
  rw [refQ_of e1] at e
  cases et : Kp193.told h (Kp193.part h k) with
  | true => rfl
  | false =>
    rw [et, if_pos rfl] at e
    exact absurd e (by decide)
theorem ask_no {h : House} {k : Nat} (a : Kp193.Ans) (e : refQ h k ≠ 0) : Kp193.ask h k a = (some h, Kp193.say (refQ h k)) := by
  unfold refQ at e ⊢
  unfold Kp193.ask
  show (some h, if 8 ≤ k then Kp193.say (-22) else _) = _
  by_cases h8 : 8 ≤ k
  · rw [if_pos h8, if_pos h8]
  · rw [if_neg h8] at e ⊢
    rw [if_neg h8]
    by_cases hn : (making h k).isNone = true
    · rw [if_pos hn, if_pos hn]
    · rw [if_neg hn] at e ⊢
      rw [if_neg hn]
      by_cases ht : Kp193.told h (Kp193.part h k) = false
      · rw [if_pos ht, if_pos ht]
      · rw [if_neg ht] at e
        exact absurd rfl e
theorem ask_yes {h : House} {k : Nat} (a : Kp193.Ans) (e : refQ h k = 0) : Kp193.ask h k a = (some h, a) := by
  obtain ⟨h8, ⟨m, hm⟩, ht⟩ := refQ_zero e
  unfold Kp193.ask
  show (some h, if 8 ≤ k then _ else if (making h k).isNone = true then _ else if Kp193.told h (Kp193.part h k) = false then _ else a) = _
  rw [if_neg (by omega), hm, if_neg (by simp), ht, if_neg (by simp)]
theorem told_all {h : House} {k : Nat} (e : Kp193.told h (Kp193.part h k) = true) : AllTold h (Kp193.part h k) := by
  intro x hx
  refine ⟨part_lt h k x hx, ?_⟩
  have := List.all_eq_true.mp e x hx
  exact Option.isSome_iff_exists.mp this
def spRefKind (C W : Addr) : Sp := fun vs H Q' _ => ∃ (ws : Addr) (h : House) (k : Nat), vs = [.ref ws, .int k] ∧ WsAt C W H ws h ∧ Q' (.int (refK h k)) H
theorem scRefKind : FnScope ["self", "k"] ["self", "k"] (defScope sRefKind) := ⟨rfl, rfl, rfl, by decide +kernel, rfl, by decide +kernel, by decide +kernel⟩
theorem ok_refKind {f : Addr} {fd : FuncData} (F : Fun K "refusal_of_kind" "Workshop.refusal_of_kind" sRefKind f fd) (T : Txt K mg C W L) (cK : Cal P w K mg base "is_kind" 1 ["k"] spIsKind) : FnOk P w K mg base CX0 2 f fd ["self", "k"] (spRefKind C W) := by
  refine F.ok scRefKind (fun vs H Q E h => ?_) (fun cdv A outer s H vs Q E hr h => ?_)
  · obtain ⟨ws, h, k, rfl, _⟩ := h
    rfl
  · obtain ⟨ws, h, k, rfl, ⟨dx, d, hw, t⟩, q⟩ := h
    refine ⟨_, pss_cons (ps_if (pt_not (pt_val (pe_cal cK hr (pa_cons (pv 1) pa_nil)))) (pss_one (ps_ret (pe_gint T.wrong))) pss_nil)
      (pss_cons (ps_if (pt_cmp (pc_dnotin (hu_of hr) (pv 1) (pe_fld (pv 0) rfl))) (pss_one (ps_ret (pe_gint T.notTold))) pss_nil)
      (pss_one (ps_ret (pe_gint T.done)))), ?_⟩
    unfold refK at q
    refine ⟨_, rfl, _, rfl, _, rfl, ?_⟩
    by_cases k8 : 8 ≤ k
    · rw [decide_eq_false (show ¬ (k : Int) < 8 by omega)]
      rw [if_pos k8] at q
      exact iteT q
    · rw [decide_eq_true (show (k : Int) < 8 by omega)]
      rw [if_neg k8] at q
      refine iteF ?_
      rcases t.look k with ⟨hn, hg⟩ | ⟨m, a, hm, hg, hat⟩
      · have q : Q (.int (-2)) H := by
          rw [hn] at q
          exact q
        exact ⟨_, rfl, _, rfl, ws, W, dx, _, _, rfl, hw, T.clW, T.nTold, rfl, d, _, rfl, hg, _, rfl, iteT q⟩
      · rw [hm, if_neg (by simp)] at q
        exact ⟨_, rfl, _, rfl, ws, W, dx, _, _, rfl, hw, T.clW, T.nTold, rfl, d, _, rfl, hg, _, rfl, iteF q⟩
/-! ### forget -/
theorem step_forget_no {h : House} {k : Nat} (e : refK h k ≠ 0) : Kp193.step (some h) (.forget k) = (some h, Kp193.say (refK h k)) := by
  show (if 8 ≤ k then _ else if (making h k).isNone = true then _ else _) = _
  unfold refK at e ⊢
  by_cases h8 : 8 ≤ k
  · rw [if_pos h8, if_pos h8]
  · rw [if_neg h8] at e ⊢
    rw [if_neg h8]
    by_cases hn : (making h k).isNone = true
    · rw [if_pos hn, if_pos hn]
    · rw [if_neg hn] at e
      exact absurd rfl e
theorem step_forget {h : House} {k : Nat} (e : refK h k = 0) : Kp193.step (some h) (.forget k) = (some (h.set k none), Kp193.say 0) := by
  obtain ⟨h8, m, hm⟩ := refK_zero e
  show (if 8 ≤ k then _ else if (making h k).isNone = true then _ else _) = _
  rw [if_neg (by omega), hm, if_neg (by simp)]
def spForget (C W : Addr) : Sp := fun vs H Q' _ => ∃ (ws : Addr) (h : House) (k : Nat), vs = [.ref ws, .int k] ∧ WsAt C W H ws h ∧ Answers C W ws H h (.forget k) Q'
theorem scForget : FnScope ["self", "k", "refusal"] ["self", "k"] (defScope sForget) := ⟨rfl, rfl, rfl, by decide +kernel, rfl, by decide +kernel, by decide +kernel⟩
theorem ok_forget {f : Addr} {fd : FuncData} (F : Fun K "forget" "Workshop.forget" sForget f fd) (T : Txt K mg C W L) (cR : MCal P w K mg base W "refusal_of_kind" 2 ["self", "k"] (spRefKind C W)) : FnOk P w K mg base CX0 3 f fd ["self", "k"] (spForget C W) := by
  refine F.ok scForget (fun vs H Q E h => ?_) (fun cdv A outer s H vs Q E hr h => ?_)
  · obtain ⟨ws, h, k, rfl, _⟩ := h
    rfl
  · obtain ⟨ws, h, k, rfl, hws, kk⟩ := h
    refine ⟨_, pss_cons (ps_set (i := 2) scForget.nd rfl (Or.inl rfl) (pe_mcal cR T.clW hr (pv 0) (pa_cons (pv 1) pa_nil)))
      (pss_cons (ps_if (pt_cmp (pc_neI (pv 2) (pe_gint T.done))) (pss_one (ps_ret (pe_lst (pa_cons (pv 2) pa_nil)))) pss_nil)
      (pss_cons (ps_expr (pe_dpop1 (pe_fld (pv 0) rfl) (pv 1) ⟨rfl, rfl, rfl, rfl⟩))
      (pss_one (ps_ret (pe_lst (pa_cons (pe_gint T.done) pa_nil)))))), ?_⟩
    obtain ⟨dx, d, hw, t⟩ := hws
    refine ⟨_, rfl, ws, dx, _, rfl, hw, rfl, _, rfl, ws, h, k, rfl, ⟨dx, d, hw, t⟩, ?_⟩
    refine ⟨_, rfl, _, _, rfl, rfl, _, rfl, ?_⟩
    by_cases e : refK h k = 0
    · obtain ⟨h8, m, hm⟩ := refK_zero e
      refine nt_no e ?_
      obtain ⟨kvs, v, hd, hv, t2⟩ := told_drop t h8 hm
      refine ⟨_, rfl, ws, W, dx, _, _, rfl, hw, T.clW, T.nTold, rfl, d, rfl, .inl ⟨kvs, .inl hd⟩, _, rfl, kvs, keyI k, v, hd, rfl, hv, (by show 1 ≤ sizeLine; decide), fun p hp => ?_⟩
      have nwd : ws ≠ d := ne_of hw hd (by intro z; cases z)
      have ndp : d ≠ p := ne_of_none upd_same hp
      have hp1 : H p = none := by
        rw [upd_ne (fun z => ndp z.symm)] at hp
        exact hp
      refine kk _ p (h.set k none) (by rw [step_forget e]) ⟨dx, d, ?_, t2.same (same_new hp)⟩ (fun b ob eb hb hnd => ?_) hp1 ?_
      · rw [upd_ne (ne_of_none hw hp1), upd_ne nwd]
        exact hw
      · rw [upd_ne (ne_of_none eb hp1), upd_ne (ne_of eb hd (hnd kvs))]
        exact eb
      · rw [upd_same, step_forget e]
        rfl
    · refine nt_yes e ⟨_, rfl, (by show 1 ≤ sizeLine; decide), fun p hp => ?_⟩
      refine kk _ p h (by rw [step_forget_no e]) (WsAt.same (same_new hp) ⟨dx, d, hw, t⟩) (same_keep (same_new hp) ws) hp ?_
      rw [upd_same, step_forget_no e]
      rfl
/-! ### refusal_of_question, refusal_of_order -/
def spRefQ (C W : Addr) : Sp := fun vs H Q' _ => ∃ (ws : Addr) (h : House) (k : Nat), vs = [.ref ws, .int k] ∧ WsAt C W H ws h ∧ ∀ H' : Hp, Same H H' → Q' (.int (refQ h k)) H'
theorem scRefQ : FnScope ["self", "k", "refusal", "kind"] ["self", "k"] (defScope sRefQ) := ⟨rfl, rfl, rfl, by decide +kernel, rfl, by decide +kernel, by decide +kernel⟩
theorem bkRefQ : BlkOk ["self", "k", "refusal", "kind"] (defScope sRefQ) (lcScope (leftE (retE ((defBody sRefQ).getD 2 (.Pass ⟨0, 0, 0, 0⟩))))) [("kind", 3)] := blkOk_by (by decide +kernel)
theorem any_told (h : House) (s : List Nat) : ((s.map fun x => !(making h x).isSome).any id) = !(Kp193.told h s) := by
  unfold Kp193.told
  rw [List.any_map]
  show (s.any fun x => !(making h x).isSome) = !(s.all fun x => (making h x).isSome)
  rw [List.not_all_eq_any_not]
theorem ok_refQ {f : Addr} {fd : FuncData} (F : Fun K "refusal_of_question" "Workshop.refusal_of_question" sRefQ f fd) (T : Txt K mg C W L) (cR : MCal P w K mg base W "refusal_of_kind" 2 ["self", "k"] (spRefKind C W)) (cU : Cal P w K mg base "used_for" 2 ["told", "k"] (spUsedFor C)) : FnOk P w K mg base CX0 3 f fd ["self", "k"] (spRefQ C W) := by
  refine F.ok scRefQ (fun vs H Q E h => ?_) (fun cdv A outer s H vs Q E hr h => ?_)
  · obtain ⟨ws, h, k, rfl, _⟩ := h
    rfl
  · obtain ⟨ws, h, k, rfl, hws, kk⟩ := h
    refine ⟨_, pss_cons (ps_set (i := 2) scRefQ.nd rfl (Or.inl rfl) (pe_mcal cR T.clW hr (pv 0) (pa_cons (pv 1) pa_nil)))
      (pss_cons (ps_if (pt_cmp (pc_neI (pv 2) (pe_gint T.done))) (pss_one (ps_ret (pv 2))) pss_nil)
      (pss_cons (ps_if (pt_val (pe_callB (cr_any rfl) (by rfl) T.any (by decide +kernel) (pa_cons (pe_lc (own := [("kind", 3)]) rfl scRefQ.nd (pi_list (pe_cal cU hr (pa_cons (pe_fld (pv 0) rfl) (pa_cons (pv 1) pa_nil)))) bkRefQ
          (fun _ _ _ _ _ => pg_name (i := 3) scRefQ.nd rfl (Or.inl rfl)) (fun _ _ _ _ _ => pts_nil) (fun _ _ _ _ _ => pe_cmp (pc_dnotin (hu_of hr) (pv 3) (pe_fldK K (pv 0))))) pa_nil)))
        (pss_one (ps_ret (pe_gint T.usedNot))) pss_nil)
      (pss_one (ps_ret (pe_gint T.done))))), ?_⟩
    obtain ⟨dx, d, hw, t⟩ := hws
    refine ⟨_, rfl, ws, dx, _, rfl, hw, rfl, _, rfl, ws, h, k, rfl, ⟨dx, d, hw, t⟩, ?_⟩
    refine ⟨_, rfl, _, _, rfl, rfl, _, rfl, ?_⟩
    by_cases e : refK h k = 0
    · obtain ⟨h8, m, hm⟩ := refK_zero e
      refine nt_no e ?_
      refine ⟨_, rfl, ws, W, dx, _, _, rfl, hw, T.clW, T.nTold, rfl, _, rfl, d, h, k, rfl, t, h8, fun H1 l s1 hl0 hl => ⟨l, rfl, ⟨_, SqL.of hl⟩, fun D hD => ?_⟩⟩
      refine lc_list (K := K) (a := l) (xs := nL (Kp193.part h k)) (fun i H' => Same H1 H' ∧ H' D = some (.lst ((((Kp193.part h k).map fun x => !(making h x).isSome).take i).map V.bl))) ⟨same_new hD, by rw [upd_same]; rfl⟩ (fun i H' _ ⟨s2, _⟩ => SqL.of (s2 _ _ hl)) ?_ ?_
      · rintro i x H' hx ⟨s2, hD'⟩
        obtain ⟨j, hj, rfl⟩ := nL_inv hx
        have s3 := s1.trans s2
        have fin : ∀ b : Bool, b = (!(making h j).isSome) → ∃ acc : List V, H' D = some (.lst acc) ∧ acc.length < sizeLine ∧ Same H1 (upd H' D (.lst (acc ++ [V.bl b]))) ∧ (upd H' D (.lst (acc ++ [V.bl b]))) D = some (.lst ((((Kp193.part h k).map fun x => !(making h x).isSome).take (i + 1)).map V.bl)) := by
          intro b hb
          refine ⟨_, hD', ?_, same_upd s2 hD, ?_⟩
          · rw [List.length_map, List.length_take, List.length_map]
            have := part_len h k
            exact lt8 (by omega)
          · rw [upd_same, take_snoc (x := b) (by rw [List.getElem?_map, hj, hb]; rfl), List.map_append]
            rfl
        refine ⟨rfl, ?_⟩
        rcases (t.same s3).look j with ⟨hn, hg⟩ | ⟨m', a, hm', hg, hat⟩
        · exact ⟨_, rfl, _, rfl, ws, W, dx, _, _, rfl, s3 _ _ hw, T.clW, T.nTold, rfl, d, _, rfl, hg, fin _ (by rw [hn]; rfl)⟩
        · exact ⟨_, rfl, _, rfl, ws, W, dx, _, _, rfl, s3 _ _ hw, T.clW, T.nTold, rfl, d, _, rfl, hg, fin _ (by rw [hm']; rfl)⟩
      · rintro H2 ⟨s2, hD'⟩
        rw [nL_len, List.take_of_length_le (by rw [List.length_map]; exact Nat.le_refl _)] at hD'
        refine ⟨D, _, rfl, SqL.of hD', _, rfl, ?_⟩
        rw [any_told]
        have q := kk H2 (s1.trans s2)
        rw [refQ_of e] at q
        cases et : Kp193.told h (Kp193.part h k) with
        | false =>
          rw [et, if_pos rfl] at q
          exact iteT q
        | true =>
          rw [et, if_neg (by simp)] at q
          exact iteF q
    · have q := kk H (Same.refl H)
      rw [refQ_refK e] at q
      exact nt_yes e ⟨_, rfl, q⟩
def spRefO (C W : Addr) : Sp := fun vs H Q' _ => ∃ (ws : Addr) (h : House) (k n : Nat), vs = [.ref ws, .int k, .int n] ∧ WsAt C W H ws h ∧ ∀ H' : Hp, Same H H' → Q' (.int (refO h k n)) H'
theorem scRefO : FnScope ["self", "k", "n", "refusal"] ["self", "k", "n"] (defScope sRefOrd) := ⟨rfl, rfl, rfl, by decide +kernel, rfl, by decide +kernel, by decide +kernel⟩
theorem ok_refO {f : Addr} {fd : FuncData} (F : Fun K "refusal_of_order" "Workshop.refusal_of_order" sRefOrd f fd) (T : Txt K mg C W L) (cR : MCal P w K mg base W "refusal_of_question" 3 ["self", "k"] (spRefQ C W)) : FnOk P w K mg base CX0 4 f fd ["self", "k", "n"] (spRefO C W) := by
  refine F.ok scRefO (fun vs H Q E h => ?_) (fun cdv A outer s H vs Q E hr h => ?_)
  · obtain ⟨ws, h, k, n, rfl, _⟩ := h
    rfl
  · obtain ⟨ws, h, k, n, rfl, hws, kk⟩ := h
    refine ⟨_, pss_cons (ps_set (i := 3) scRefO.nd rfl (Or.inl rfl) (pe_mcal cR T.clW hr (pv 0) (pa_cons (pv 1) pa_nil)))
      (pss_cons (ps_if (pt_cmp (pc_neI (pv 3) (pe_gint T.done))) (pss_one (ps_ret (pv 3))) pss_nil)
      (pss_cons (ps_if (pt_not (pt_chain op_le op_le pe_int (pv 2) (pe_gint T.mostOrd))) (pss_one (ps_ret (pe_gint T.wrong))) pss_nil)
      (pss_one (ps_ret (pe_gint T.done))))), ?_⟩
    obtain ⟨dx, d, hw, t⟩ := hws
    refine ⟨_, rfl, ws, dx, _, rfl, hw, rfl, _, rfl, ws, h, k, rfl, ⟨dx, d, hw, t⟩, fun H1 s1 => ?_⟩
    refine ⟨_, rfl, _, _, rfl, rfl, _, rfl, ?_⟩
    have q := kk H1 s1
    unfold refO at q
    by_cases e : refQ h k = 0
    · rw [if_neg (fun z => z e)] at q
      refine nt_no e ?_
      refine ⟨_, rfl, _, _, rfl, rfl, _, rfl, ?_⟩
      refine ite2 (fun c => ?_) fun c => ?_
      · have c1 : (1 : Int) ≤ (n : Int) := of_decide_eq_true c
        refine ⟨_, _, rfl, rfl, _, rfl, ?_⟩
        by_cases c2 : (n : Int) ≤ 1000000
        · rw [if_pos ⟨by omega, by omega⟩] at q
          exact nt_no c2 q
        · rw [if_neg (fun z => c2 (by omega))] at q
          exact nt_yes c2 q
      · have c1 : ¬ (1 : Int) ≤ (n : Int) := fun z => c (decide_eq_true z)
        rw [if_neg (fun z => c1 (by omega))] at q
        exact ⟨_, rfl, iteT q⟩
    · rw [if_pos e] at q
      exact nt_yes e ⟨_, rfl, q⟩
end
end Pt
end
section
set_option Elab.async false
set_option linter.all false
set_option maxRecDepth 100000
set_option maxHeartbeats 2000000
namespace Pt
open PySem PySem.Spec PyProof.Rows L2 Ru Pm
open Kp193 (Q House Making making usesOf makesOf outOf frac)
section
variable {P : Program} {w : World} {K : PySem.W.Frag} {mg : Str → Option Value} {base : Heap} {C W L : Addr}
/-! ### took -/
theorem part_nd (h : House) (k : Nat) : (Kp193.part h k).Nodup := (part_sorted h k).imp fun {a b} (q : a < b) => Nat.ne_of_lt q
theorem flat_nL (s : List Nat) : (nL s).all flatV = true := by
  refine List.all_eq_true.mpr fun x hx => ?_
  obtain ⟨n, _, rfl⟩ := List.mem_map.mp hx
  rfl
theorem found_len (n : Nat) (a : Mx) : (found n a).length = n := by
  unfold found
  rw [List.length_map, List.length_range]
theorem took_none {h : House} {k u : Nat} (hu : u < (Kp193.part h k).length) (hle : itF (mxT h (Kp193.part h k)) u u u ≤ 0) : Kp193.took h k = none := by
  show (Kp193.solve (Kp193.part h k).length (Kp193.tookRows h (Kp193.part h k))).bind _ = none
  rw [tookRows_eq, solve_none hu hle]
  rfl
theorem took_some {h : House} {k j : Nat} {q : Q} (g : Good (Kp193.part h k).length (mxT h (Kp193.part h k))) (hj : (Kp193.part h k)[j]? = some k) (hq : (found (Kp193.part h k).length (mxT h (Kp193.part h k)))[j]? = some q) : Kp193.took h k = some q := by
  show (Kp193.solve (Kp193.part h k).length (Kp193.tookRows h (Kp193.part h k))).bind _ = some q
  rw [tookRows_eq, solve_found g]
  exact zip_find hj hq fun m hm z => by
    have := nd_ix (part_nd h k) z hj
    omega
theorem runs_none {h : House} {k n u : Nat} (hu : u < (Kp193.part h k).length) (hle : itF (mxR h (Kp193.part h k) k n) u u u ≤ 0) : Kp193.runs h k n = none := by
  show (Kp193.solve (Kp193.part h k).length (Kp193.runRows h (Kp193.part h k) k n)).map _ = none
  rw [runRows_eq, solve_none hu hle]
  rfl
theorem runs_some {h : House} {k n : Nat} (g : Good (Kp193.part h k).length (mxR h (Kp193.part h k) k n)) : Kp193.runs h k n = some ((Kp193.part h k).zip (found (Kp193.part h k).length (mxR h (Kp193.part h k) k n))) := by
  show (Kp193.solve (Kp193.part h k).length (Kp193.runRows h (Kp193.part h k) k n)).map _ = _
  rw [runRows_eq, solve_found g]
  rfl
def tookA (h : House) (k : Nat) : Kp193.Ans := match Kp193.took h k with
  | none => Kp193.say (-33)
  | some a => Kp193.sayQ a
theorem step_took_no {h : House} {k : Nat} (e : refQ h k ≠ 0) : Kp193.step (some h) (.took k) = (some h, Kp193.say (refQ h k)) := ask_no (tookA h k) e
theorem step_took {h : House} {k : Nat} (e : refQ h k = 0) : Kp193.step (some h) (.took k) = (some h, tookA h k) := ask_yes (tookA h k) e
def spTook (C W : Addr) : Sp := fun vs H Q' _ => ∃ (ws : Addr) (h : House) (k : Nat), vs = [.ref ws, .int k] ∧ WsAt C W H ws h ∧ Answers C W ws H h (.took k) Q'
theorem scTook : FnScope ["self", "k", "refusal", "kinds", "fractions"] ["self", "k"] (defScope sTook) := ⟨rfl, rfl, rfl, by decide +kernel, rfl, by decide +kernel, by decide +kernel⟩
theorem ok_took {f : Addr} {fd : FuncData} (F : Fun K "took" "Workshop.took" sTook f fd) (T : Txt K mg C W L) (cR : MCal P w K mg base W "refusal_of_question" 3 ["self", "k"] (spRefQ C W)) (cU : Cal P w K mg base "used_for" 2 ["told", "k"] (spUsedFor C))
    (cS : Cal P w K mg base "solved" 2 ["equations"] spSolved) (cE : Cal P w K mg base "taking_equations" 3 ["told", "kinds"] (spTakeEqs C)) (cA : Cal P w K mg base "fraction_answer" 2 ["fraction"] spFrAns) : FnOk P w K mg base CX0 4 f fd ["self", "k"] (spTook C W) := by
  refine F.ok scTook (fun vs H Q E h => ?_) (fun cdv A outer s H vs Q E hr h => ?_)
  · obtain ⟨ws, h, k, rfl, _⟩ := h
    rfl
  · obtain ⟨ws, h, k, rfl, hws, kk⟩ := h
    have hr2 : Room 2 _ := hr.mono (by decide)
    refine ⟨_, pss_cons (ps_set (i := 2) scTook.nd rfl (Or.inl rfl) (pe_mcal cR T.clW hr (pv 0) (pa_cons (pv 1) pa_nil)))
      (pss_cons (ps_if (pt_cmp (pc_neI (pv 2) (pe_gint T.done))) (pss_one (ps_ret (pe_lst (pa_cons (pv 2) pa_nil)))) pss_nil)
      (pss_cons (ps_set (i := 3) scTook.nd rfl (Or.inl rfl) (pe_cal cU hr2 (pa_cons (pe_fld (pv 0) rfl) (pa_cons (pv 1) pa_nil))))
      (pss_cons (ps_set (i := 4) scTook.nd rfl (Or.inl rfl) (pe_cal cS hr2 (pa_cons (pe_cal cE hr (pa_cons (pe_fld (pv 0) rfl) (pa_cons (pv 3) pa_nil))) pa_nil)))
      (pss_cons (ps_if (pt_cmp (pc_isN (pv 4))) (pss_one (ps_ret (pe_lst (pa_cons (pe_gint T.cannot) pa_nil)))) pss_nil)
      (pss_one (ps_ret (pe_cal cA hr2 (pa_cons (pe_ix ix_list (pv 4) (pe_bm PySem.F.plainAttrs_list PySem.F.slot_list_index PySem.F.type_list_index mt_index (pv 3) (pa_cons (pv 1) pa_nil)) (fun _ _ => rfl)) pa_nil)))))))), ?_⟩
    obtain ⟨dx, d, hw, t⟩ := hws
    refine ⟨_, rfl, ws, dx, _, rfl, hw, rfl, _, rfl, ws, h, k, rfl, ⟨dx, d, hw, t⟩, fun H1 s1 => ?_⟩
    refine ⟨_, rfl, _, _, rfl, rfl, _, rfl, ?_⟩
    by_cases e : refQ h k = 0
    · obtain ⟨h8, _, ht⟩ := refQ_zero e
      have al := told_all ht
      have lp := part_len h k
      refine nt_no e ?_
      have fin : ∀ (H5 : Hp) (p : Addr) (a : Kp193.Ans), Same H H5 → H p = none → tookA h k = a → H5 p = some (.lst (iL (ans a))) → Q (.ref p) H5 := fun H5 p a s5 hp ea h5 =>
        kk H5 p h (by rw [step_took e]) (WsAt.same s5 ⟨dx, d, hw, t⟩) (same_keep s5 ws) hp (by rw [step_took e]; show _ = some (HO.lst (iL (ans (tookA h k)))); rw [ea]; exact h5)
      refine ⟨_, rfl, ws, W, dx, _, _, rfl, s1 _ _ hw, T.clW, T.nTold, rfl, _, rfl, d, h, k, rfl, t.same s1, h8, fun H2 l s2 hl0 hl => ?_⟩
      have s12 := s1.trans s2
      refine ⟨_, rfl, ws, W, dx, _, _, rfl, s12 _ _ hw, T.clW, T.nTold, rfl, _, rfl, d, l, h, Kp193.part h k, rfl, t.same s12, hl, lp, al, fun H3 eqs s3 he0 he => ?_⟩
      have s13 := s12.trans s3
      rw [rowsT_mat] at he
      refine ⟨eqs, (Kp193.part h k).length, mxT h (Kp193.part h k), rfl, he, lp, bdT t.ok _, sgT h (part_sorted h k), fun u hu hle H4 s4 => ?_, fun good H4 p s4 hp0 hp => ?_⟩
      · have s14 := s13.trans s4
        refine ⟨_, rfl, _, rfl, ite2 (fun _ => ?_) fun c => absurd (decide_eq_true rfl) c⟩
        refine ⟨(by show 1 ≤ sizeLine; decide), fun p hp => fin _ p (Kp193.say (-33)) (same_upd s14 (s14.free hp)) (s14.free hp) ?_ (by rw [upd_same]; rfl)⟩
        unfold tookA
        rw [took_none hu hle]
      · have s14 := s13.trans s4
        refine ⟨_, rfl, _, rfl, ite2 (fun c => nomatch (of_decide_eq_true c)) fun _ => ?_⟩
        obtain ⟨j, hj⟩ := List.getElem?_of_mem (part_self h h8)
        have hj' : j < (Kp193.part h k).length := (List.getElem?_eq_some_iff.mp hj).1
        obtain ⟨q, hq⟩ : ∃ q, (found (Kp193.part h k).length (mxT h (Kp193.part h k)))[j]? = some q := ⟨_, List.getElem?_eq_getElem (by rw [found_len]; exact hj')⟩
        obtain ⟨xs, r, hxs, _, hxj, hr1⟩ := hp.get (i := j) (o := frO q) (by rw [List.getElem?_map, hq]; rfl)
        have hl4 : H4 l = some (.lst (nL (Kp193.part h k))) := s4 _ _ (s3 _ _ hl)
        refine ⟨_, rfl, _, rfl, .inl ⟨rfl, _, SqL.of hl4⟩, _, rfl, l, nL (Kp193.part h k), .int k, j, .int k, rfl, rfl, SqL.of hl4, rfl, flat_nL _, nL_get hj, by show ((k : Int) == (k : Int)) = true; exact beq_self_eq_true _, fun m z hm hz => ?_, ?_⟩
        · obtain ⟨x, hx, rfl⟩ := nL_inv hz
          show ((x : Int) == (k : Int)) = false
          refine beq_eq_false_iff_ne.mpr fun z => ?_
          have e2 : x = k := by omega
          subst e2
          have := nd_ix (part_nd h x) hx hj
          omega
        · refine ⟨p, xs, _, _, rfl, rfl, SqL.of hxs, at_nat hxj, r, q, rfl, hr1, found_nn good (sgT h (part_sorted h k)) q (List.mem_of_getElem? hq), fun H5 z s5 hz0 hz => ?_⟩
          refine fin H5 z _ (s14.trans s5) (s14.free hz0) ?_ hz
          unfold tookA
          rw [took_some good hj hq]
    · refine nt_yes e ⟨_, rfl, (by show 1 ≤ sizeLine; decide), fun p hp => ?_⟩
      have s2 : Same H (upd H1 p (.lst [.int (refQ h k)])) := same_upd s1 (s1.free hp)
      refine kk _ p h (by rw [step_took_no e]) (WsAt.same s2 ⟨dx, d, hw, t⟩) (same_keep s2 ws) (s1.free hp) ?_
      rw [upd_same, step_took_no e]
      rfl
/-! ### runs, all -/
def runsA (h : House) (k n : Nat) : Kp193.Ans := match Kp193.runs h k n with
  | none => Kp193.say (-33)
  | some l => rAns l
def allA (h : House) (k n : Nat) : Kp193.Ans := match Kp193.runs h k n with
  | none => Kp193.say (-33)
  | some l => Kp193.sayQ (Kp193.letOut h l)
theorem refO_zero {h : House} {k n : Nat} (e : refO h k n = 0) : refQ h k = 0 ∧ 1 ≤ n ∧ n ≤ 1000000 := by
  unfold refO at e
  by_cases e1 : refQ h k = 0
  · rw [if_neg (fun z => z e1)] at e
    by_cases e2 : 1 ≤ n ∧ n ≤ 1000000
    · exact ⟨e1, e2⟩
    · rw [if_neg e2] at e
      exact absurd e (by decide)
  · rw [if_pos e1] at e
    exact absurd e e1
theorem ord_no {h : House} {k n : Nat} (X : Kp193.Ans) (e : refO h k n ≠ 0) : Kp193.ask h k (if n < 1 ∨ 1000000 < n then Kp193.say (-22) else X) = (some h, Kp193.say (refO h k n)) := by
  by_cases e1 : refQ h k = 0
  · have r1 : refO h k n = if 1 ≤ n ∧ n ≤ 1000000 then 0 else -22 := by
      unfold refO
      rw [if_neg (fun z => z e1)]
    rw [r1] at e ⊢
    by_cases e2 : 1 ≤ n ∧ n ≤ 1000000
    · rw [if_pos e2] at e
      exact absurd rfl e
    · rw [if_neg e2, if_pos (show n < 1 ∨ 1000000 < n by omega)]
      exact ask_yes _ e1
  · have r1 : refO h k n = refQ h k := by
      unfold refO
      rw [if_pos e1]
    rw [r1]
    exact ask_no _ e1
theorem ord_yes {h : House} {k n : Nat} (X : Kp193.Ans) (e : refO h k n = 0) : Kp193.ask h k (if n < 1 ∨ 1000000 < n then Kp193.say (-22) else X) = (some h, X) := by
  obtain ⟨e1, e2, e3⟩ := refO_zero e
  rw [if_neg (by omega)]
  exact ask_yes _ e1
theorem step_runs_no {h : House} {k n : Nat} (e : refO h k n ≠ 0) : Kp193.step (some h) (.runs k n) = (some h, Kp193.say (refO h k n)) := ord_no (runsA h k n) e
theorem step_runs {h : House} {k n : Nat} (e : refO h k n = 0) : Kp193.step (some h) (.runs k n) = (some h, runsA h k n) := ord_yes (runsA h k n) e
theorem step_all_no {h : House} {k n : Nat} (e : refO h k n ≠ 0) : Kp193.step (some h) (.all k n) = (some h, Kp193.say (refO h k n)) := ord_no (allA h k n) e
theorem step_all {h : House} {k n : Nat} (e : refO h k n = 0) : Kp193.step (some h) (.all k n) = (some h, allA h k n) := ord_yes (allA h k n) e
def spRuns (C W : Addr) : Sp := fun vs H Q' _ => ∃ (ws : Addr) (h : House) (k n : Nat), vs = [.ref ws, .int k, .int n] ∧ WsAt C W H ws h ∧ Answers C W ws H h (.runs k n) Q'
theorem scRuns : FnScope ["self", "k", "n", "refusal", "kinds", "fractions"] ["self", "k", "n"] (defScope sRuns) := ⟨rfl, rfl, rfl, by decide +kernel, rfl, by decide +kernel, by decide +kernel⟩
theorem ok_runs {f : Addr} {fd : FuncData} (F : Fun K "runs" "Workshop.runs" sRuns f fd) (T : Txt K mg C W L) (cR : MCal P w K mg base W "refusal_of_order" 4 ["self", "k", "n"] (spRefO C W)) (cU : Cal P w K mg base "used_for" 2 ["told", "k"] (spUsedFor C))
    (cS : Cal P w K mg base "solved" 2 ["equations"] spSolved) (cE : Cal P w K mg base "running_equations" 3 ["told", "kinds", "k", "n"] (spRunEqs C)) (cA : Cal P w K mg base "runs_answer" 2 ["kinds", "fractions"] spRunsAns) : FnOk P w K mg base CX0 5 f fd ["self", "k", "n"] (spRuns C W) := by
  refine F.ok scRuns (fun vs H Q E h => ?_) (fun cdv A outer s H vs Q E hr h => ?_)
  · obtain ⟨ws, h, k, n, rfl, _⟩ := h
    rfl
  · obtain ⟨ws, h, k, n, rfl, hws, kk⟩ := h
    have hr2 : Room 2 _ := hr.mono (by decide)
    have hr3 : Room 3 _ := hr.mono (by decide)
    refine ⟨_, pss_cons (ps_set (i := 3) scRuns.nd rfl (Or.inl rfl) (pe_mcal cR T.clW hr (pv 0) (pa_cons (pv 1) (pa_cons (pv 2) pa_nil))))
      (pss_cons (ps_if (pt_cmp (pc_neI (pv 3) (pe_gint T.done))) (pss_one (ps_ret (pe_lst (pa_cons (pv 3) pa_nil)))) pss_nil)
      (pss_cons (ps_set (i := 4) scRuns.nd rfl (Or.inl rfl) (pe_cal cU hr2 (pa_cons (pe_fld (pv 0) rfl) (pa_cons (pv 1) pa_nil))))
      (pss_cons (ps_set (i := 5) scRuns.nd rfl (Or.inl rfl) (pe_cal cS hr2 (pa_cons (pe_cal cE hr3 (pa_cons (pe_fld (pv 0) rfl) (pa_cons (pv 4) (pa_cons (pv 1) (pa_cons (pv 2) pa_nil))))) pa_nil)))
      (pss_cons (ps_if (pt_cmp (pc_isN (pv 5))) (pss_one (ps_ret (pe_lst (pa_cons (pe_gint T.cannot) pa_nil)))) pss_nil)
      (pss_one (ps_ret (pe_cal cA hr2 (pa_cons (pv 4) (pa_cons (pv 5) pa_nil))))))))), ?_⟩
    obtain ⟨dx, d, hw, t⟩ := hws
    refine ⟨_, rfl, ws, dx, _, rfl, hw, rfl, _, rfl, _, rfl, ws, h, k, n, rfl, ⟨dx, d, hw, t⟩, fun H1 s1 => ?_⟩
    refine ⟨_, rfl, _, _, rfl, rfl, _, rfl, ?_⟩
    by_cases e : refO h k n = 0
    · obtain ⟨e1, e2, e3⟩ := refO_zero e
      obtain ⟨h8, _, ht⟩ := refQ_zero e1
      have al := told_all ht
      have lp := part_len h k
      refine nt_no e ?_
      have fin : ∀ (H5 : Hp) (p : Addr) (a : Kp193.Ans), Same H H5 → H p = none → runsA h k n = a → H5 p = some (.lst (iL (ans a))) → Q (.ref p) H5 := fun H5 p a s5 hp ea h5 =>
        kk H5 p h (by rw [step_runs e]) (WsAt.same s5 ⟨dx, d, hw, t⟩) (same_keep s5 ws) hp (by rw [step_runs e]; show _ = some (HO.lst (iL (ans (runsA h k n)))); rw [ea]; exact h5)
      refine ⟨_, rfl, ws, W, dx, _, _, rfl, s1 _ _ hw, T.clW, T.nTold, rfl, _, rfl, d, h, k, rfl, t.same s1, h8, fun H2 l s2 hl0 hl => ?_⟩
      have s12 := s1.trans s2
      refine ⟨_, rfl, ws, W, dx, _, _, rfl, s12 _ _ hw, T.clW, T.nTold, rfl, _, rfl, _, rfl, _, rfl, d, l, h, Kp193.part h k, k, n, rfl, t.same s12, hl, lp, al, fun H3 eqs s3 he0 he => ?_⟩
      have s13 := s12.trans s3
      rw [rowsR_mat] at he
      refine ⟨eqs, (Kp193.part h k).length, mxR h (Kp193.part h k) k n, rfl, he, lp, bdR t.ok _ k e3, sgR h k n (part_sorted h k), fun u hu hle H4 s4 => ?_, fun good H4 p s4 hp0 hp => ?_⟩
      · have s14 := s13.trans s4
        refine ⟨_, rfl, _, rfl, ite2 (fun _ => ?_) fun c => absurd (decide_eq_true rfl) c⟩
        refine ⟨(by show 1 ≤ sizeLine; decide), fun p hp => fin _ p (Kp193.say (-33)) (same_upd s14 (s14.free hp)) (s14.free hp) ?_ (by rw [upd_same]; rfl)⟩
        unfold runsA
        rw [runs_none hu hle]
      · have s14 := s13.trans s4
        refine ⟨_, rfl, _, rfl, ite2 (fun c => nomatch (of_decide_eq_true c)) fun _ => ?_⟩
        have hl4 : H4 l = some (.lst (nL (Kp193.part h k))) := s4 _ _ (s3 _ _ hl)
        refine ⟨_, rfl, _, rfl, l, p, Kp193.part h k, found (Kp193.part h k).length (mxR h (Kp193.part h k) k n), rfl, hl4, hp, by rw [found_len], lp, found_nn good (sgR h k n (part_sorted h k)), fun H5 z s5 hz0 hz => ?_⟩
        refine fin H5 z _ (s14.trans s5) (s14.free hz0) ?_ hz
        unfold runsA
        rw [runs_some good]
    · refine nt_yes e ⟨_, rfl, (by show 1 ≤ sizeLine; decide), fun p hp => ?_⟩
      have s2 : Same H (upd H1 p (.lst [.int (refO h k n)])) := same_upd s1 (s1.free hp)
      refine kk _ p h (by rw [step_runs_no e]) (WsAt.same s2 ⟨dx, d, hw, t⟩) (same_keep s2 ws) (s1.free hp) ?_
      rw [upd_same, step_runs_no e]
      rfl
def spAll (C W : Addr) : Sp := fun vs H Q' _ => ∃ (ws : Addr) (h : House) (k n : Nat), vs = [.ref ws, .int k, .int n] ∧ WsAt C W H ws h ∧ Answers C W ws H h (.all k n) Q'
theorem scLetOut : FnScope ["self", "k", "n", "refusal", "kinds", "fractions"] ["self", "k", "n"] (defScope sLetOut) := ⟨rfl, rfl, rfl, by decide +kernel, rfl, by decide +kernel, by decide +kernel⟩
theorem ok_letOut {f : Addr} {fd : FuncData} (F : Fun K "let_out" "Workshop.let_out" sLetOut f fd) (T : Txt K mg C W L) (cR : MCal P w K mg base W "refusal_of_order" 4 ["self", "k", "n"] (spRefO C W)) (cU : Cal P w K mg base "used_for" 2 ["told", "k"] (spUsedFor C))
    (cS : Cal P w K mg base "solved" 2 ["equations"] spSolved) (cE : Cal P w K mg base "running_equations" 3 ["told", "kinds", "k", "n"] (spRunEqs C)) (cT : Cal P w K mg base "let_out_together" 2 ["told", "kinds", "fractions"] (spLetOutT C)) (cA : Cal P w K mg base "fraction_answer" 2 ["fraction"] spFrAns) : FnOk P w K mg base CX0 5 f fd ["self", "k", "n"] (spAll C W) := by
  refine F.ok scLetOut (fun vs H Q E h => ?_) (fun cdv A outer s H vs Q E hr h => ?_)
  · obtain ⟨ws, h, k, n, rfl, _⟩ := h
    rfl
  · obtain ⟨ws, h, k, n, rfl, hws, kk⟩ := h
    have hr2 : Room 2 _ := hr.mono (by decide)
    have hr3 : Room 3 _ := hr.mono (by decide)
    refine ⟨_, pss_cons (ps_set (i := 3) scLetOut.nd rfl (Or.inl rfl) (pe_mcal cR T.clW hr (pv 0) (pa_cons (pv 1) (pa_cons (pv 2) pa_nil))))
      (pss_cons (ps_if (pt_cmp (pc_neI (pv 3) (pe_gint T.done))) (pss_one (ps_ret (pe_lst (pa_cons (pv 3) pa_nil)))) pss_nil)
      (pss_cons (ps_set (i := 4) scLetOut.nd rfl (Or.inl rfl) (pe_cal cU hr2 (pa_cons (pe_fld (pv 0) rfl) (pa_cons (pv 1) pa_nil))))
      (pss_cons (ps_set (i := 5) scLetOut.nd rfl (Or.inl rfl) (pe_cal cS hr2 (pa_cons (pe_cal cE hr3 (pa_cons (pe_fld (pv 0) rfl) (pa_cons (pv 4) (pa_cons (pv 1) (pa_cons (pv 2) pa_nil))))) pa_nil)))
      (pss_cons (ps_if (pt_cmp (pc_isN (pv 5))) (pss_one (ps_ret (pe_lst (pa_cons (pe_gint T.cannot) pa_nil)))) pss_nil)
      (pss_one (ps_ret (pe_cal cA hr2 (pa_cons (pe_cal cT hr2 (pa_cons (pe_fld (pv 0) rfl) (pa_cons (pv 4) (pa_cons (pv 5) pa_nil)))) pa_nil)))))))), ?_⟩
    obtain ⟨dx, d, hw, t⟩ := hws
    refine ⟨_, rfl, ws, dx, _, rfl, hw, rfl, _, rfl, _, rfl, ws, h, k, n, rfl, ⟨dx, d, hw, t⟩, fun H1 s1 => ?_⟩
    refine ⟨_, rfl, _, _, rfl, rfl, _, rfl, ?_⟩
    by_cases e : refO h k n = 0
    · obtain ⟨e1, e2, e3⟩ := refO_zero e
      obtain ⟨h8, _, ht⟩ := refQ_zero e1
      have al := told_all ht
      have lp := part_len h k
      refine nt_no e ?_
      have fin : ∀ (H5 : Hp) (p : Addr) (a : Kp193.Ans), Same H H5 → H p = none → allA h k n = a → H5 p = some (.lst (iL (ans a))) → Q (.ref p) H5 := fun H5 p a s5 hp ea h5 =>
        kk H5 p h (by rw [step_all e]) (WsAt.same s5 ⟨dx, d, hw, t⟩) (same_keep s5 ws) hp (by rw [step_all e]; show _ = some (HO.lst (iL (ans (allA h k n)))); rw [ea]; exact h5)
      refine ⟨_, rfl, ws, W, dx, _, _, rfl, s1 _ _ hw, T.clW, T.nTold, rfl, _, rfl, d, h, k, rfl, t.same s1, h8, fun H2 l s2 hl0 hl => ?_⟩
      have s12 := s1.trans s2
      refine ⟨_, rfl, ws, W, dx, _, _, rfl, s12 _ _ hw, T.clW, T.nTold, rfl, _, rfl, _, rfl, _, rfl, d, l, h, Kp193.part h k, k, n, rfl, t.same s12, hl, lp, al, fun H3 eqs s3 he0 he => ?_⟩
      have s13 := s12.trans s3
      rw [rowsR_mat] at he
      have bd := bdR t.ok (Kp193.part h k) k e3
      refine ⟨eqs, (Kp193.part h k).length, mxR h (Kp193.part h k) k n, rfl, he, lp, bd, sgR h k n (part_sorted h k), fun u hu hle H4 s4 => ?_, fun good H4 p s4 hp0 hp => ?_⟩
      · have s14 := s13.trans s4
        refine ⟨_, rfl, _, rfl, ite2 (fun _ => ?_) fun c => absurd (decide_eq_true rfl) c⟩
        refine ⟨(by show 1 ≤ sizeLine; decide), fun p hp => fin _ p (Kp193.say (-33)) (same_upd s14 (s14.free hp)) (s14.free hp) ?_ (by rw [upd_same]; rfl)⟩
        unfold allA
        rw [runs_none hu hle]
      · have s14 := s13.trans s4
        refine ⟨_, rfl, _, rfl, ite2 (fun c => nomatch (of_decide_eq_true c)) fun _ => ?_⟩
        have hl4 : H4 l = some (.lst (nL (Kp193.part h k))) := s4 _ _ (s3 _ _ hl)
        have nn := found_nn good (sgR h k n (part_sorted h k))
        have nm := found_nm good
        have sz := found_sz lp good bd
        have zm : ∀ x ∈ (Kp193.part h k).zip (found (Kp193.part h k).length (mxR h (Kp193.part h k) k n)), x.2 ∈ found (Kp193.part h k).length (mxR h (Kp193.part h k) k n) := fun x hx => (List.of_mem_zip (a := x.1) (b := x.2) hx).2
        refine ⟨_, rfl, ws, W, dx, _, _, rfl, s14 _ _ hw, T.clW, T.nTold, rfl, _, rfl, _, rfl, d, l, p, h, Kp193.part h k, found (Kp193.part h k).length (mxR h (Kp193.part h k) k n), rfl, t.same s14, hl4, hp, by rw [found_len], lp, al, fun q hq => ⟨nm q hq, nn q hq, (sz q hq).1, (sz q hq).2⟩, fun H5 r s5 hr5 => ?_⟩
        have n01 : Nm q01 := ⟨Nat.one_pos, Nat.coprime_one_right _⟩
        have le := letOut_eq (h := h) ((Kp193.part h k).zip (found (Kp193.part h k).length (mxR h (Kp193.part h k) k n))) q01 n01 fun x hx => nm _ (zm x hx)
        have ln := letOut_nn (h := h) ((Kp193.part h k).zip (found (Kp193.part h k).length (mxR h (Kp193.part h k) k n))) q01 n01 (Int.le_refl _) fun x hx => ⟨nm _ (zm x hx), nn _ (zm x hx)⟩
        have s15 := s14.trans s5
        refine ⟨r, _, rfl, hr5, ln, fun H6 z s6 hz0 hz => ?_⟩
        refine fin H6 z _ (s15.trans s6) (s15.free hz0) ?_ hz
        unfold allA
        rw [runs_some good]
        show Kp193.sayQ (Kp193.letOut h _) = _
        unfold Kp193.letOut
        rw [le.1]
        rfl
    · refine nt_yes e ⟨_, rfl, (by show 1 ≤ sizeLine; decide), fun p hp => ?_⟩
      have s2 : Same H (upd H1 p (.lst [.int (refO h k n)])) := same_upd s1 (s1.free hp)
      refine kk _ p h (by rw [step_all_no e]) (WsAt.same s2 ⟨dx, d, hw, t⟩) (same_keep s2 ws) (s1.free hp) ?_
      rw [upd_same, step_all_no e]
      rfl
end
end Pt
end
section
set_option Elab.async false
set_option linter.all false
set_option maxRecDepth 100000
set_option maxHeartbeats 2000000
namespace Pt
open PySem PySem.Spec PyProof.Rows L2 Ru Pm
open Kp193 (Q House Making making usesOf makesOf outOf frac)
/-! ### calls as numbers -/
def encC : Kp193.Call → List Int
  | .begin_ => [0]
  | .tell k m o u => (1 : Int) :: (k : Int) :: (m : Int) :: (o : Int) :: (u.length : Int) :: castL u
  | .forget k => [2, (k : Int)]
  | .took k => [3, (k : Int)]
  | .runs k n => [4, (k : Int), (n : Int)]
  | .all k n => [5, (k : Int), (n : Int)]
def playX : Kp193.State → List Kp193.Call → List Int
  | _, [] => []
  | s, x :: r => ((ans (Kp193.step s x).2).length : Int) :: (ans (Kp193.step s x).2 ++ playX (Kp193.step s x).1 r)
theorem playX_begin (s s' : Kp193.State) (r : List Kp193.Call) : playX s (.begin_ :: r) = playX s' (.begin_ :: r) := rfl
theorem nat_of {z : Int} {b : Nat} (h : Kp193Neutral.natural z b = true) : ((z.toNat : Nat) : Int) = z := by
  unfold Kp193Neutral.natural at h
  rw [Bool.and_eq_true] at h
  have := of_decide_eq_true h.1
  omega
theorem cast_back {u : List Int} {b : Nat} (h : (u.all fun z => Kp193Neutral.natural z b) = true) : castL (u.map Int.toNat) = u := by
  unfold castL
  rw [List.map_map]
  have : ∀ z ∈ u, ((fun (x : Nat) => (x : Int)) ∘ Int.toNat) z = z := fun z hz => nat_of (List.all_eq_true.mp h z hz)
  rw [List.map_congr_left this, List.map_id']
theorem whole_id (c : List (List Int)) : PyKp193.whole c = c := by
  unfold PyKp193.whole
  split <;> rfl
theorem len2 {α : Type} {l : List α} (h : l.length = 2) : ∃ a b, l = [a, b] := by
  match l, h with
  | [a, b], _ => exact ⟨a, b, rfl⟩
theorem take1 {r : List Int} (h : ¬ r.length < 1) : ∃ a t, r = a :: t := by
  match r, h with
  | a :: t, _ => exact ⟨a, t, rfl⟩
  | [], h => exact absurd (by decide) h
theorem take2 {r : List Int} (h : ¬ r.length < 2) : ∃ a b t, r = a :: b :: t := by
  match r, h with
  | a :: b :: t, _ => exact ⟨a, b, t, rfl⟩
  | [a], h => exact absurd (by simp) h
  | [], h => exact absurd (by simp) h
theorem take3 {r : List Int} (h : ¬ r.length < 3) : ∃ a b c t, r = a :: b :: c :: t := by
  match r, h with
  | a :: b :: c :: t, _ => exact ⟨a, b, c, t, rfl⟩
  | [a, b], h => exact absurd (by simp) h
  | [a], h => exact absurd (by simp) h
  | [], h => exact absurd (by simp) h
/-- one call, read -/
theorem call_eq {p : Int} {r : List Int} {n k : Nat} (h : PyKp193.shape p = some (n, k)) (hl : ¬ r.length < n) : PyFlat.call PyKp193.shape (p :: r) = match PyFlat.rows k (r.drop n) with
    | none => none
    | some (xs, t) => some ((p :: r.take n) :: xs, t) := by
  show (match PyKp193.shape p with
    | none => none
    | some (n, k) => if r.length < n then none else match PyFlat.rows k (r.drop n) with
      | none => none
      | some (xs, t) => some ((p :: r.take n) :: xs, t)) = _
  rw [h]
  show (if r.length < n then none else _) = _
  rw [if_neg hl]
theorem call_short {p : Int} {r t : List Int} {c : List (List Int)} {n k : Nat} (h : PyKp193.shape p = some (n, k)) (e : PyFlat.call PyKp193.shape (p :: r) = some (c, t)) : ¬ r.length < n := fun hl => by
  have e2 : (match PyKp193.shape p with
    | none => none
    | some (n, k) => if r.length < n then none else match PyFlat.rows k (r.drop n) with
      | none => none
      | some (xs, t) => some ((p :: r.take n) :: xs, t)) = some (c, t) := e
  rw [h] at e2
  have e3 : (if r.length < n then none else match PyFlat.rows k (r.drop n) with
      | none => none
      | some (xs, t) => some ((p :: r.take n) :: xs, t)) = some (c, t) := e2
  rw [if_pos hl] at e3
  cases e3
theorem call_read {p : Int} {r t : List Int} {c : List (List Int)} (h : PyFlat.call PyKp193.shape (p :: r) = some (c, t)) (ha : Kp193Neutral.asked1 c = true) : ∃ x : Kp193.Call, Kp193Neutral.callOf c = some x ∧ p :: r = encC x ++ t := by
  by_cases h0 : p = 0
  · subst h0
    rw [call_eq (n := 0) (k := 0) rfl (Nat.not_lt_zero _)] at h
    have e : (some (([0] : List Int) :: [], r) : Option (List (List Int) × List Int)) = some (c, t) := h
    obtain ⟨rfl, rfl⟩ := Prod.mk.inj (Option.some.inj e)
    exact ⟨.begin_, rfl, rfl⟩
  by_cases h1 : p = 1
  · subst h1
    have hl := call_short (n := 3) (k := 1) rfl h
    rw [call_eq (n := 3) (k := 1) rfl hl] at h
    obtain ⟨k, m, o, s, rfl⟩ := take3 hl
    cases s with
    | nil => cases h
    | cons n s =>
      by_cases hn : 0 ≤ n ∧ n.toNat ≤ s.length
      · have er : PyFlat.rows 1 (n :: s) = some ([s.take n.toNat], s.drop n.toNat) := by
          simp [PyFlat.rows, PyFlat.row, hn]
        have h' : (match PyFlat.rows 1 (n :: s) with
          | none => none
          | some (xs, t) => some ((1 :: [k, m, o]) :: xs, t)) = some (c, t) := h
        rw [er] at h'
        have e : (some ([[1, k, m, o], s.take n.toNat], s.drop n.toNat) : Option (List (List Int) × List Int)) = some (c, t) := h'
        obtain ⟨rfl, rfl⟩ := Prod.mk.inj (Option.some.inj e)
        have ha' : (Kp193Neutral.natural k 32 && (Kp193Neutral.natural m 32 && (Kp193Neutral.natural o 32 && (decide ((s.take n.toNat).length ≤ 20) && (s.take n.toNat).all fun z => Kp193Neutral.natural z 32)))) = true := ha
        rw [Bool.and_eq_true, Bool.and_eq_true, Bool.and_eq_true, Bool.and_eq_true] at ha'
        obtain ⟨a1, a2, a3, a4, a5⟩ := ha'
        refine ⟨.tell k.toNat m.toNat o.toNat ((s.take n.toNat).map Int.toNat), rfl, ?_⟩
        show _ = (1 : Int) :: ((k.toNat : Nat) : Int) :: ((m.toNat : Nat) : Int) :: ((o.toNat : Nat) : Int) :: ((((s.take n.toNat).map Int.toNat).length : Nat) : Int) :: (castL ((s.take n.toNat).map Int.toNat) ++ s.drop n.toNat)
        rw [nat_of a1, nat_of a2, nat_of a3, cast_back a5, List.take_append_drop, List.length_map, List.length_take, Nat.min_eq_left hn.2, show ((n.toNat : Nat) : Int) = n by omega]
      · have er : PyFlat.rows 1 (n :: s) = none := by
          have e0 : PyFlat.row (n :: s) = none := if_neg hn
          show (match PyFlat.row (n :: s) with
            | none => none
            | some (x, s) => match PyFlat.rows 0 s with
              | none => none
              | some (xs, t) => some (x :: xs, t)) = none
          rw [e0]
        have h' : (match PyFlat.rows 1 (n :: s) with
          | none => none
          | some (xs, t) => some ((1 :: [k, m, o]) :: xs, t)) = some (c, t) := h
        rw [er] at h'
        cases h'
  by_cases h2 : p = 2
  · subst h2
    have hl := call_short (n := 1) (k := 0) rfl h
    rw [call_eq (n := 1) (k := 0) rfl hl] at h
    obtain ⟨k, s, rfl⟩ := take1 hl
    have e : (some ([[2, k]], s) : Option (List (List Int) × List Int)) = some (c, t) := h
    obtain ⟨rfl, rfl⟩ := Prod.mk.inj (Option.some.inj e)
    have a1 : Kp193Neutral.natural k 32 = true := ha
    refine ⟨.forget k.toNat, rfl, ?_⟩
    show _ = (2 : Int) :: ((k.toNat : Nat) : Int) :: s
    rw [nat_of a1]
  by_cases h3 : p = 3
  · subst h3
    have hl := call_short (n := 1) (k := 0) rfl h
    rw [call_eq (n := 1) (k := 0) rfl hl] at h
    obtain ⟨k, s, rfl⟩ := take1 hl
    have e : (some ([[3, k]], s) : Option (List (List Int) × List Int)) = some (c, t) := h
    obtain ⟨rfl, rfl⟩ := Prod.mk.inj (Option.some.inj e)
    have a1 : Kp193Neutral.natural k 32 = true := ha
    refine ⟨.took k.toNat, rfl, ?_⟩
    show _ = (3 : Int) :: ((k.toNat : Nat) : Int) :: s
    rw [nat_of a1]
  by_cases h4 : p = 4
  · subst h4
    have hl := call_short (n := 2) (k := 0) rfl h
    rw [call_eq (n := 2) (k := 0) rfl hl] at h
    obtain ⟨k, n, s, rfl⟩ := take2 hl
    have e : (some ([[4, k, n]], s) : Option (List (List Int) × List Int)) = some (c, t) := h
    obtain ⟨rfl, rfl⟩ := Prod.mk.inj (Option.some.inj e)
    have a1 : (Kp193Neutral.natural k 32 && Kp193Neutral.natural n 32) = true := ha
    rw [Bool.and_eq_true] at a1
    refine ⟨.runs k.toNat n.toNat, rfl, ?_⟩
    show _ = (4 : Int) :: ((k.toNat : Nat) : Int) :: ((n.toNat : Nat) : Int) :: s
    rw [nat_of a1.1, nat_of a1.2]
  by_cases h5 : p = 5
  · subst h5
    have hl := call_short (n := 2) (k := 0) rfl h
    rw [call_eq (n := 2) (k := 0) rfl hl] at h
    obtain ⟨k, n, s, rfl⟩ := take2 hl
    have e : (some ([[5, k, n]], s) : Option (List (List Int) × List Int)) = some (c, t) := h
    obtain ⟨rfl, rfl⟩ := Prod.mk.inj (Option.some.inj e)
    have a1 : (Kp193Neutral.natural k 32 && Kp193Neutral.natural n 32) = true := ha
    rw [Bool.and_eq_true] at a1
    refine ⟨.all k.toNat n.toNat, rfl, ?_⟩
    show _ = (5 : Int) :: ((k.toNat : Nat) : Int) :: ((n.toNat : Nat) : Int) :: s
    rw [nat_of a1.1, nat_of a1.2]
  exfalso
  have es : PyKp193.shape p = none := by
    unfold PyKp193.shape
    rw [if_neg h0, if_neg h1, if_neg h2, if_neg h3, if_neg h4, if_neg h5]
  have e2 : (match PyKp193.shape p with
    | none => none
    | some (n, k) => if r.length < n then none else match PyFlat.rows k (r.drop n) with
      | none => none
      | some (xs, t) => some ((p :: r.take n) :: xs, t)) = some (c, t) := h
  rw [es] at e2
  cases e2
/-- what the calls are: read, and played -/
structure Reads' (l : List Int) (cs : List (List (List Int))) (xs : List Kp193.Call) : Prop where
  len : xs.length = cs.length
  flat : l = xs.flatMap encC
  of : ∀ s, PyFlat.told (PyFlat.played Kp193Neutral.step s cs) = playX s xs
  hd : ∀ r, cs = [[0]] :: r → ∃ r', xs = .begin_ :: r'
theorem calls_read : ∀ (f : Nat) (l : List Int) (cs : List (List (List Int))), PyFlat.calls PyKp193.shape f l = some cs → (∀ c ∈ cs, Kp193Neutral.asked1 c = true) → ∃ xs, Reads' l cs xs
  | f, [], cs, h, _ => by
    have e : cs = [] := by
      cases f <;> (simp [PyFlat.calls] at h; exact h)
    subst e
    exact ⟨[], rfl, rfl, fun s => rfl, fun r e => by cases e⟩
  | 0, p :: r, cs, h, _ => by simp [PyFlat.calls] at h
  | f + 1, p :: r, cs, h, ha => by
    have h' : (match PyFlat.call PyKp193.shape (p :: r) with
      | none => none
      | some (c, t) => match PyFlat.calls PyKp193.shape f t with
        | none => none
        | some cs => some (c :: cs)) = some cs := h
    cases e1 : PyFlat.call PyKp193.shape (p :: r) with
    | none =>
      rw [e1] at h'
      cases h'
    | some ct =>
      obtain ⟨c, t⟩ := ct
      rw [e1] at h'
      cases e2 : PyFlat.calls PyKp193.shape f t with
      | none =>
        simp only [e2] at h'
        cases h'
      | some cs' =>
        simp only [e2] at h'
        have e3 : c :: cs' = cs := Option.some.inj h'
        subst e3
        obtain ⟨x, hx, hf⟩ := call_read e1 (ha c List.mem_cons_self)
        obtain ⟨xs, R⟩ := calls_read f t cs' e2 fun c' hc => ha c' (List.mem_cons_of_mem _ hc)
        refine ⟨x :: xs, by simp [R.len], ?_, fun s => ?_, fun r' e => ?_⟩
        · rw [List.flatMap_cons, ← R.flat]
          exact hf
        · have es : Kp193Neutral.step s c = ((Kp193.step s x).1, ans (Kp193.step s x).2) := by
            unfold Kp193Neutral.step
            rw [hx]
            rfl
          show PyFlat.told ((Kp193Neutral.step s c).2 :: PyFlat.played Kp193Neutral.step (Kp193Neutral.step s c).1 cs') = _
          rw [es]
          show (((ans (Kp193.step s x).2).length : Int) :: ans (Kp193.step s x).2) ++ PyFlat.told (PyFlat.played Kp193Neutral.step (Kp193.step s x).1 cs') = _
          rw [R.of]
          rfl
        · have ec : c = [[0]] := (List.cons.inj e).1
          rw [ec] at hx
          have : Kp193.Call.begin_ = x := Option.some.inj hx
          exact ⟨xs, by rw [← this]⟩
theorem answers_read {l : List Int} (h : PyKp193.answers_asked l = true) : ∃ (xs r : List Kp193.Call), xs = .begin_ :: r ∧ xs.length ≤ 400 ∧ l = xs.flatMap encC ∧ PyKp193.answers l = playX none xs := by
  unfold PyKp193.answers_asked at h
  unfold PyKp193.answers
  have e0 : PyKp193.calls l = PyFlat.calls PyKp193.shape l.length l := by
    unfold PyKp193.calls
    cases e : PyFlat.calls PyKp193.shape l.length l with
    | none => rfl
    | some cs =>
      show some (cs.map PyKp193.whole) = some cs
      rw [List.map_congr_left (g := id) fun c _ => whole_id c, List.map_id]
  rw [e0] at h ⊢
  cases e : PyFlat.calls PyKp193.shape l.length l with
  | none =>
    rw [e] at h
    cases h
  | some cs =>
    rw [e] at h
    have h' : (PyFlat.atMost 400 cs && (Kp193Neutral.begins cs && (decide (cs.length ≤ 400) && cs.all Kp193Neutral.asked1))) = true := h
    rw [Bool.and_eq_true, Bool.and_eq_true, Bool.and_eq_true] at h'
    obtain ⟨_, h2, h3, h4⟩ := h'
    obtain ⟨xs, R⟩ := calls_read l.length l cs e fun c hc => List.all_eq_true.mp h4 c hc
    have hb : ∃ r, cs = [[0]] :: r := by
      unfold Kp193Neutral.begins at h2
      split at h2
      · exact ⟨_, rfl⟩
      · cases h2
    obtain ⟨r, hr⟩ := hb
    obtain ⟨r', hr'⟩ := R.hd r hr
    exact ⟨xs, r', hr', by rw [R.len]; exact of_decide_eq_true h3, R.flat, R.of _⟩
/-! ### how long an answer is -/
theorem ask_len {h : House} {k : Nat} {a : Kp193.Ans} {n : Nat} (ha : a.nums.length ≤ n) : (Kp193.ask h k a).2.nums.length ≤ n := by
  unfold Kp193.ask
  show (if _ then Kp193.say (-22) else if _ then Kp193.say (-2) else if _ then Kp193.say (-61) else a).nums.length ≤ n
  split
  · exact Nat.zero_le _
  · split
    · exact Nat.zero_le _
    · split
      · exact Nat.zero_le _
      · exact ha
theorem sayQ_len (q : Q) : (Kp193.sayQ q).nums.length ≤ 24 := by
  unfold Kp193.sayQ
  split
  · show 2 ≤ 24
    decide
  · exact Nat.zero_le _
theorem flat3 : ∀ l : List (Nat × Q), (l.flatMap fun x => [(x.1 : Int), x.2.top, (x.2.bottom : Int)]).length = 3 * l.length
  | [] => rfl
  | x :: l => by
    rw [List.flatMap_cons, List.length_append, flat3 l]
    show 3 + 3 * l.length = 3 * (l.length + 1)
    omega
theorem rAns_len {l : List (Nat × Q)} (h : l.length ≤ 8) : (rAns l).nums.length ≤ 24 := by
  unfold rAns
  split
  · exact Nat.zero_le _
  · show (l.flatMap _).length ≤ 24
    rw [flat3]
    omega
theorem runs_len {h : House} {k n : Nat} {l : List (Nat × Q)} (e : Kp193.runs h k n = some l) : l.length ≤ 8 := by
  have e' : (Kp193.solve (Kp193.part h k).length (Kp193.runRows h (Kp193.part h k) k n)).map (fun xs => (Kp193.part h k).zip xs) = some l := e
  cases es : Kp193.solve (Kp193.part h k).length (Kp193.runRows h (Kp193.part h k) k n) with
  | none =>
    rw [es] at e'
    cases e'
  | some xs =>
    rw [es] at e'
    have e2 : (Kp193.part h k).zip xs = l := Option.some.inj e'
    rw [← e2, List.length_zip]
    have := part_len h k
    omega
theorem step_len (h : House) (x : Kp193.Call) : (Kp193.step (some h) x).2.nums.length ≤ 24 := by
  cases x with
  | begin_ => exact Nat.zero_le _
  | tell k m o u =>
    show (if _ then _ else _ : Kp193.State × Kp193.Ans).2.nums.length ≤ 24
    split <;> exact Nat.zero_le _
  | forget k =>
    show (if _ then _ else if _ then _ else _ : Kp193.State × Kp193.Ans).2.nums.length ≤ 24
    split
    · exact Nat.zero_le _
    · split <;> exact Nat.zero_le _
  | took k =>
    refine ask_len (a := tookA h k) ?_
    unfold tookA
    split
    · exact Nat.zero_le _
    · exact sayQ_len _
  | runs k n =>
    refine ask_len (a := if n < 1 ∨ 1000000 < n then Kp193.say (-22) else runsA h k n) ?_
    split
    · exact Nat.zero_le _
    · unfold runsA
      split
      · exact Nat.zero_le _
      · rename_i l e
        exact rAns_len (runs_len e)
  | all k n =>
    refine ask_len (a := if n < 1 ∨ 1000000 < n then Kp193.say (-22) else allA h k n) ?_
    split
    · exact Nat.zero_le _
    · unfold allA
      split
      · exact Nat.zero_le _
      · exact sayQ_len _
end Pt
end
section
set_option Elab.async false
set_option linter.all false
set_option maxRecDepth 100000
set_option maxHeartbeats 2000000
namespace Pt
open PySem PySem.Spec PyProof.Rows L2 Ru Pm
open Kp193 (Q House Making making usesOf makesOf outOf frac)
section
variable {P : Program} {w : World} {K : PySem.W.Frag} {mg : Str → Option Value} {base : Heap} {C W L : Addr}
/-! ### end_of_call -/
def kindC : Kp193.Call → Int
  | .begin_ => 0
  | .tell .. => 1
  | .forget _ => 2
  | .took _ => 3
  | .runs .. => 4
  | .all .. => 5
def lenC : Kp193.Call → Int
  | .begin_ => 1
  | .tell .. => 5
  | .forget _ => 2
  | .took _ => 2
  | .runs .. => 3
  | .all .. => 3
theorem enc_hd (x : Kp193.Call) : (encC x)[0]? = some (kindC x) := by cases x <;> rfl
theorem lens_of (x : Kp193.Call) : lens.lookup (kindC x) = some (lenC x) := by cases x <;> rfl
theorem enc_len {x : Kp193.Call} (h : kindC x ≠ 1) : (((encC x).length : Nat) : Int) = lenC x := by
  cases x with
  | tell k m o u => exact absurd rfl h
  | _ => rfl
theorem enc_tell {x : Kp193.Call} (h : kindC x = 1) : ∃ k m o u, x = .tell k m o u := by
  cases x with
  | tell k m o u => exact ⟨k, m, o, u, rfl⟩
  | begin_ => exact absurd h (by decide)
  | forget k => exact absurd h (show ¬ (2 : Int) = 1 by decide)
  | took k => exact absurd h (show ¬ (3 : Int) = 1 by decide)
  | runs k n => exact absurd h (show ¬ (4 : Int) = 1 by decide)
  | all k n => exact absurd h (show ¬ (5 : Int) = 1 by decide)
theorem mid_get {pre mid post : List Int} {j : Nat} {z : Int} (h : mid[j]? = some z) : (pre ++ (mid ++ post))[pre.length + j]? = some z := by
  have hj : j < mid.length := (List.getElem?_eq_some_iff.mp h).1
  rw [List.getElem?_append_right (by omega), Nat.add_sub_cancel_left, List.getElem?_append_left hj]
  exact h
def spEnd (K : PySem.W.Frag) : Sp := fun vs H Q' _ => ∃ (a : Addr) (pre post : List Int) (x : Kp193.Call), vs = [.ref a, .int (pre.length : Int)] ∧ SqL K H a (iL (pre ++ (encC x ++ post))) ∧ Q' (.int ((pre.length + (encC x).length : Nat) : Int)) H
theorem scEnd : FnScope ["calls", "start", "end"] ["calls", "start"] (defScope sEnd) := ⟨rfl, rfl, rfl, by decide +kernel, rfl, by decide +kernel, by decide +kernel⟩
theorem ok_end {f : Addr} {fd : FuncData} (F : Fun K "end_of_call" "end_of_call" sEnd f fd) (T : Txt K mg C W L) : FnOk P w K mg base CX0 1 f fd ["calls", "start"] (spEnd K) := by
  refine F.ok scEnd (fun vs H Q E h => ?_) (fun cdv A outer s H vs Q E hr h => ?_)
  · obtain ⟨a, pre, post, x, rfl, _⟩ := h
    rfl
  · obtain ⟨a, pre, post, x, rfl, hs, q⟩ := h
    refine ⟨_, pss_cons (ps_set (i := 2) scEnd.nd rfl (Or.inl rfl) (pe_op op_add (pv 1) (pe_tab T.tab (pe_glob (v := .ref L) (by rfl) T.lengths rfl) (pe_ix ix_list (pv 0) (pv 1) (fun _ _ => rfl)) (fun _ _ => rfl))))
      (pss_cons (ps_if (pt_cmp (pc_eqI (pe_ix ix_list (pv 0) (pv 1) (fun _ _ => rfl)) (pe_gint T.tell))) (pss_one (ps_ret (pe_op op_add (pv 2) (pe_ix ix_list (pv 0) (pe_op op_sub (pv 2) pe_int) (fun _ _ => rfl))))) pss_nil)
      (pss_one (ps_ret (pv 2)))), ?_⟩
    have h0 : (pre ++ (encC x ++ post))[pre.length]? = some (kindC x) := mid_get (j := 0) (enc_hd x)
    refine ⟨_, rfl, _, rfl, _, rfl, a, _, _, _, rfl, rfl, hs, at_nat (iL_get h0), kindC x, lenC x, rfl, rfl, lens_of x, _, _, rfl, rfl, ?_⟩
    refine ⟨_, rfl, _, rfl, a, _, _, _, rfl, rfl, hs, at_nat (iL_get h0), _, _, rfl, rfl, _, rfl, ?_⟩
    refine ite2 (fun c => ?_) fun c => ?_
    · obtain ⟨k, m, o, u, rfl⟩ := enc_tell (of_decide_eq_true c)
      have h4 : (pre ++ (encC (.tell k m o u) ++ post))[pre.length + 4]? = some (u.length : Int) := mid_get (j := 4) rfl
      have e5 : ((pre.length + (encC (.tell k m o u)).length : Nat) : Int) = (pre.length : Int) + 5 + (u.length : Int) := by
        show ((pre.length + ((castL u).length + 5) : Nat) : Int) = _
        unfold castL
        rw [List.length_map]
        omega
      rw [e5] at q
      refine ⟨_, rfl, _, rfl, _, rfl, _, _, rfl, rfl, a, _, _, _, rfl, rfl, hs, at_of (j := pre.length + 4) ?_ (iL_get h4), _, _, rfl, rfl, q⟩
      show (pre.length : Int) + 5 - 1 = _
      omega
    · have c1 : kindC x ≠ 1 := fun z => c (decide_eq_true z)
      have e5 : ((pre.length + (encC x).length : Nat) : Int) = (pre.length : Int) + lenC x := by
        rw [← enc_len c1]
        omega
      rw [e5] at q
      exact ⟨_, rfl, q⟩
/-! ### answer -/
def spAnswer (C W : Addr) : Sp := fun vs H Q' _ => ∃ (ws c : Addr) (h : House) (x : Kp193.Call), vs = [.ref ws, .ref c] ∧ WsAt C W H ws h ∧ H c = some (.lst (iL (encC x))) ∧ Answers C W ws H h x Q'
theorem scAnswer : FnScope ["workshop", "call"] ["workshop", "call"] (defScope sAnswer) := ⟨rfl, rfl, rfl, by decide +kernel, rfl, by decide +kernel, by decide +kernel⟩
theorem cut5 (k m o : Nat) (u : List Nat) : cutV (iL (encC (.tell k m o u))) (some 5) none = nL u := by
  have e : iL (encC (.tell k m o u)) = .int 1 :: .int (k : Int) :: .int (m : Int) :: .int (o : Int) :: .int (u.length : Int) :: nL u := by
    rw [nL_cast]
    rfl
  rw [e]
  unfold cutV
  have e1 : HT.sIx (V.int 1 :: V.int (k : Int) :: V.int (m : Int) :: V.int (o : Int) :: V.int (u.length : Int) :: nL u).length 0 (some 5) = 5 := by
    have := HT.sIx_nat (V.int 1 :: V.int (k : Int) :: V.int (m : Int) :: V.int (o : Int) :: V.int (u.length : Int) :: nL u).length 0 5
    refine Eq.trans this ?_
    rw [List.length_cons, List.length_cons, List.length_cons, List.length_cons, List.length_cons]
    omega
  rw [e1, HT.sIx_none]
  show (nL u).take _ = nL u
  refine List.take_of_length_le ?_
  rw [List.length_cons, List.length_cons, List.length_cons, List.length_cons, List.length_cons]
  omega
theorem ok_answer {f : Addr} {fd : FuncData} (F : Fun K "answer" "answer" sAnswer f fd) (T : Txt K mg C W L) (c0 : MCal P w K mg base W "begin" 1 ["self"] (spBegin C W)) (c1 : MCal P w K mg base W "tell" 3 ["self", "k", "makes", "out", "uses"] (spTell C W))
    (c2 : MCal P w K mg base W "forget" 3 ["self", "k"] (spForget C W)) (c3 : MCal P w K mg base W "took" 4 ["self", "k"] (spTook C W)) (c4 : MCal P w K mg base W "runs" 5 ["self", "k", "n"] (spRuns C W)) (c5 : MCal P w K mg base W "let_out" 5 ["self", "k", "n"] (spAll C W)) : FnOk P w K mg base CX0 6 f fd ["workshop", "call"] (spAnswer C W) := by
  refine F.ok scAnswer (fun vs H Q E h => ?_) (fun cdv A outer s H vs Q E hr h => ?_)
  · obtain ⟨ws, c, h, x, rfl, _⟩ := h
    rfl
  · obtain ⟨ws, c, h, x, rfl, hws, hc, kk⟩ := h
    have hr1 : Room 1 _ := hr.mono (by decide)
    have hr3 : Room 3 _ := hr.mono (by decide)
    have hr4 : Room 4 _ := hr.mono (by decide)
    refine ⟨_, pss_cons (ps_if (pt_cmp (pc_eqI (pe_ix ix_list (pv 1) pe_int (fun _ _ => rfl)) (pe_gint T.begin_))) (pss_one (ps_ret (pe_mcal0 c0 T.clW hr1 (pv 0)))) pss_nil)
      (pss_cons (ps_if (pt_cmp (pc_eqI (pe_ix ix_list (pv 1) pe_int (fun _ _ => rfl)) (pe_gint T.tell))) (pss_one (ps_ret (pe_mcal c1 T.clW hr3 (pv 0) (pa_cons (pe_ix ix_list (pv 1) pe_int (fun _ _ => rfl)) (pa_cons (pe_ix ix_list (pv 1) pe_int (fun _ _ => rfl)) (pa_cons (pe_ix ix_list (pv 1) pe_int (fun _ _ => rfl)) (pa_cons (pe_slice sl_list (pv 1) (po_some pe_int) po_none) pa_nil))))))) pss_nil)
      (pss_cons (ps_if (pt_cmp (pc_eqI (pe_ix ix_list (pv 1) pe_int (fun _ _ => rfl)) (pe_gint T.forget))) (pss_one (ps_ret (pe_mcal c2 T.clW hr3 (pv 0) (pa_cons (pe_ix ix_list (pv 1) pe_int (fun _ _ => rfl)) pa_nil)))) pss_nil)
      (pss_cons (ps_if (pt_cmp (pc_eqI (pe_ix ix_list (pv 1) pe_int (fun _ _ => rfl)) (pe_gint T.took))) (pss_one (ps_ret (pe_mcal c3 T.clW hr4 (pv 0) (pa_cons (pe_ix ix_list (pv 1) pe_int (fun _ _ => rfl)) pa_nil)))) pss_nil)
      (pss_cons (ps_if (pt_cmp (pc_eqI (pe_ix ix_list (pv 1) pe_int (fun _ _ => rfl)) (pe_gint T.runs))) (pss_one (ps_ret (pe_mcal c4 T.clW hr (pv 0) (pa_cons (pe_ix ix_list (pv 1) pe_int (fun _ _ => rfl)) (pa_cons (pe_ix ix_list (pv 1) pe_int (fun _ _ => rfl)) pa_nil))))) pss_nil)
      (pss_one (ps_ret (pe_mcal c5 T.clW hr (pv 0) (pa_cons (pe_ix ix_list (pv 1) pe_int (fun _ _ => rfl)) (pa_cons (pe_ix ix_list (pv 1) pe_int (fun _ _ => rfl)) pa_nil))))))))), ?_⟩
    have hs : SqL K H c (iL (encC x)) := SqL.of hc
    obtain ⟨dx, d, hw, t⟩ := hws
    have hws : WsAt C W H ws h := ⟨dx, d, hw, t⟩
    cases x with
    | begin_ =>
      have at0 : atI (iL (encC (.begin_))) 0 = some (.int 0) := at_of (j := 0) rfl rfl
      refine ⟨_, rfl, c, _, _, _, rfl, rfl, hs, at0, _, _, rfl, rfl, _, rfl, ite2 (fun _ => ?_) fun z => absurd (decide_eq_true rfl) z⟩
      exact ⟨_, rfl, ws, dx, _, rfl, hw, rfl, ws, h, rfl, hws, kk⟩
    | tell k m o u =>
      have at0 : atI (iL (encC (.tell k m o u))) 0 = some (.int 1) := at_of (j := 0) rfl rfl
      refine ⟨_, rfl, c, _, _, _, rfl, rfl, hs, at0, _, _, rfl, rfl, _, rfl, ite2 (fun z => absurd (of_decide_eq_true z) (by decide)) fun _ => ?_⟩
      refine ⟨_, rfl, c, _, _, _, rfl, rfl, hs, at0, _, _, rfl, rfl, _, rfl, ite2 (fun _ => ?_) fun z => absurd (decide_eq_true rfl) z⟩
      refine ⟨_, rfl, ws, dx, _, rfl, hw, rfl, ?_⟩
      refine ⟨_, rfl, c, _, _, _, rfl, rfl, hs, at_of (j := 1) rfl rfl, _, rfl, c, _, _, _, rfl, rfl, hs, at_of (j := 2) rfl rfl, _, rfl, c, _, _, _, rfl, rfl, hs, at_of (j := 3) rfl rfl, _, rfl, _, rfl, c, _, rfl, hs, fun p hp => ?_⟩
      rw [cut5]
      have s1 : Same H (upd H p (.lst (nL u))) := same_new hp
      refine ⟨ws, p, h, k, m, o, u, rfl, hws.same s1, upd_same, fun H' z h' e1 e2 e3 e4 e5 => kk H' z h' e1 e2 (fun b ob eb hb hn => e3 b ob (s1 _ _ eb) hb hn) (s1.free e4) e5⟩
    | forget k =>
      have at0 : atI (iL (encC (.forget k))) 0 = some (.int 2) := at_of (j := 0) rfl rfl
      refine ⟨_, rfl, c, _, _, _, rfl, rfl, hs, at0, _, _, rfl, rfl, _, rfl, ite2 (fun z => absurd (of_decide_eq_true z) (by decide)) fun _ => ?_⟩
      refine ⟨_, rfl, c, _, _, _, rfl, rfl, hs, at0, _, _, rfl, rfl, _, rfl, ite2 (fun z => absurd (of_decide_eq_true z) (by decide)) fun _ => ?_⟩
      refine ⟨_, rfl, c, _, _, _, rfl, rfl, hs, at0, _, _, rfl, rfl, _, rfl, ite2 (fun _ => ?_) fun z => absurd (decide_eq_true rfl) z⟩
      exact ⟨_, rfl, ws, dx, _, rfl, hw, rfl, _, rfl, c, _, _, _, rfl, rfl, hs, at_of (j := 1) rfl rfl, ws, h, k, rfl, hws, kk⟩
    | took k =>
      have at0 : atI (iL (encC (.took k))) 0 = some (.int 3) := at_of (j := 0) rfl rfl
      refine ⟨_, rfl, c, _, _, _, rfl, rfl, hs, at0, _, _, rfl, rfl, _, rfl, ite2 (fun z => absurd (of_decide_eq_true z) (by decide)) fun _ => ?_⟩
      refine ⟨_, rfl, c, _, _, _, rfl, rfl, hs, at0, _, _, rfl, rfl, _, rfl, ite2 (fun z => absurd (of_decide_eq_true z) (by decide)) fun _ => ?_⟩
      refine ⟨_, rfl, c, _, _, _, rfl, rfl, hs, at0, _, _, rfl, rfl, _, rfl, ite2 (fun z => absurd (of_decide_eq_true z) (by decide)) fun _ => ?_⟩
      refine ⟨_, rfl, c, _, _, _, rfl, rfl, hs, at0, _, _, rfl, rfl, _, rfl, ite2 (fun _ => ?_) fun z => absurd (decide_eq_true rfl) z⟩
      exact ⟨_, rfl, ws, dx, _, rfl, hw, rfl, _, rfl, c, _, _, _, rfl, rfl, hs, at_of (j := 1) rfl rfl, ws, h, k, rfl, hws, kk⟩
    | runs k n =>
      have at0 : atI (iL (encC (.runs k n))) 0 = some (.int 4) := at_of (j := 0) rfl rfl
      refine ⟨_, rfl, c, _, _, _, rfl, rfl, hs, at0, _, _, rfl, rfl, _, rfl, ite2 (fun z => absurd (of_decide_eq_true z) (by decide)) fun _ => ?_⟩
      refine ⟨_, rfl, c, _, _, _, rfl, rfl, hs, at0, _, _, rfl, rfl, _, rfl, ite2 (fun z => absurd (of_decide_eq_true z) (by decide)) fun _ => ?_⟩
      refine ⟨_, rfl, c, _, _, _, rfl, rfl, hs, at0, _, _, rfl, rfl, _, rfl, ite2 (fun z => absurd (of_decide_eq_true z) (by decide)) fun _ => ?_⟩
      refine ⟨_, rfl, c, _, _, _, rfl, rfl, hs, at0, _, _, rfl, rfl, _, rfl, ite2 (fun z => absurd (of_decide_eq_true z) (by decide)) fun _ => ?_⟩
      refine ⟨_, rfl, c, _, _, _, rfl, rfl, hs, at0, _, _, rfl, rfl, _, rfl, ite2 (fun _ => ?_) fun z => absurd (decide_eq_true rfl) z⟩
      exact ⟨_, rfl, ws, dx, _, rfl, hw, rfl, _, rfl, c, _, _, _, rfl, rfl, hs, at_of (j := 1) rfl rfl, _, rfl, c, _, _, _, rfl, rfl, hs, at_of (j := 2) rfl rfl, ws, h, k, n, rfl, hws, kk⟩
    | all k n =>
      have at0 : atI (iL (encC (.all k n))) 0 = some (.int 5) := at_of (j := 0) rfl rfl
      refine ⟨_, rfl, c, _, _, _, rfl, rfl, hs, at0, _, _, rfl, rfl, _, rfl, ite2 (fun z => absurd (of_decide_eq_true z) (by decide)) fun _ => ?_⟩
      refine ⟨_, rfl, c, _, _, _, rfl, rfl, hs, at0, _, _, rfl, rfl, _, rfl, ite2 (fun z => absurd (of_decide_eq_true z) (by decide)) fun _ => ?_⟩
      refine ⟨_, rfl, c, _, _, _, rfl, rfl, hs, at0, _, _, rfl, rfl, _, rfl, ite2 (fun z => absurd (of_decide_eq_true z) (by decide)) fun _ => ?_⟩
      refine ⟨_, rfl, c, _, _, _, rfl, rfl, hs, at0, _, _, rfl, rfl, _, rfl, ite2 (fun z => absurd (of_decide_eq_true z) (by decide)) fun _ => ?_⟩
      refine ⟨_, rfl, c, _, _, _, rfl, rfl, hs, at0, _, _, rfl, rfl, _, rfl, ite2 (fun z => absurd (of_decide_eq_true z) (by decide)) fun _ => ?_⟩
      exact ⟨_, rfl, ws, dx, _, rfl, hw, rfl, _, rfl, c, _, _, _, rfl, rfl, hs, at_of (j := 1) rfl rfl, _, rfl, c, _, _, _, rfl, rfl, hs, at_of (j := 2) rfl rfl, ws, h, k, n, rfl, hws, kk⟩
/-! ### answers -/
theorem sq_keep {H H' : Hp} {ws a : Addr} {xs : List V} {dx : Addr} {fs : List (Str × V)} (hw : H ws = some (.ins W dx fs)) (kp : Keep H H' ws) (h : SqL K H a xs) : SqL K H' a xs := by
  rcases h with (h | ⟨o, h⟩) | h
  · exact .inl (.inl (kp _ _ h (ne_of h hw (by intro z; cases z)) (by intro kvs z; cases z)))
  · exact .inl (.inr ⟨o, kp _ _ h (ne_of h hw (by intro z; cases z)) (by intro kvs z; cases z)⟩)
  · exact .inr h
theorem mk_lst {H : Hp} {a g : Addr} {k : Nat} {m : Making} {xs : List V} {o : HO} (hg : H g = some (.lst xs)) (x : MkAt C H a k m) : MkAt C (upd H g o) a k m := by
  obtain ⟨dx, u, h1, h2⟩ := x
  refine ⟨dx, u, ?_, ?_⟩
  · rw [upd_ne (ne_of h1 hg (by intro z; cases z))]
    exact h1
  · rw [upd_ne (ne_of h2 hg (by intro z; cases z))]
    exact h2
theorem told_lst {H : Hp} {d g : Addr} {h : House} {xs : List V} {o : HO} (hg : H g = some (.lst xs)) (t : ToldAt C H d h) : ToldAt C (upd H g o) d h := by
  obtain ⟨kvs, h1, h2, h3, h4, h5⟩ := t.ex
  refine ⟨⟨kvs, ?_, h2, h3, h4, fun k m e => ?_⟩, t.ok⟩
  · rw [upd_ne (ne_of h1 hg (by intro z; cases z))]
    exact h1
  · obtain ⟨a, q1, q2⟩ := h5 k m e
    exact ⟨a, q1, mk_lst hg q2⟩
theorem cut_mid (pre mid post : List Int) : cutV (iL (pre ++ (mid ++ post))) (some (pre.length : Int)) (some ((pre.length + mid.length : Nat) : Int)) = iL mid := by
  unfold cutV
  rw [iL_len, HT.sIx_nat, HT.sIx_nat, List.length_append, List.length_append, Nat.min_eq_left (by omega), Nat.min_eq_left (by omega), Nat.add_sub_cancel_left]
  unfold iL
  rw [List.map_append, List.map_append, List.drop_append_of_le_length (by rw [List.length_map]; exact Nat.le_refl _), List.drop_of_length_le (by rw [List.length_map]; exact Nat.le_refl _), List.nil_append, List.take_append_of_le_length (by rw [List.length_map]; exact Nat.le_refl _), List.take_of_length_le (by rw [List.length_map]; exact Nat.le_refl _)]
def spAnswers (K : PySem.W.Frag) : Sp := fun vs H Q' _ => ∃ (a : Addr) (xs r : List Kp193.Call), vs = [.ref a] ∧ SqL K H a (iL (xs.flatMap encC)) ∧ xs = .begin_ :: r ∧ xs.length ≤ 400 ∧ ∀ (H' : Hp) (p : Addr), H' p = some (.lst (iL (playX none xs))) → Q' (.ref p) H'
theorem scAnswers : FnScope ["calls", "workshop", "given", "start", "end", "numbers"] ["calls"] (defScope sAnswers) := ⟨rfl, rfl, rfl, by decide +kernel, rfl, by decide +kernel, by decide +kernel⟩
theorem ans_len (h : House) (x : Kp193.Call) : (ans (Kp193.step (some h) x).2).length ≤ 25 := by
  unfold ans
  rw [List.length_cons]
  have := step_len h x
  omega
theorem lt_line {n : Nat} (h : n ≤ 20000) : n < sizeLine := Nat.lt_of_le_of_lt h (by decide)
theorem enc_pos (x : Kp193.Call) : 0 < (encC x).length := by cases x <;> exact Nat.succ_pos _
theorem ok_answers {f : Addr} {fd : FuncData} (F : Fun K "answers" "answers" sAnswers f fd) (T : Txt K mg C W L) (cW : NCal P w K mg base W "Workshop" 1 ["self"] (spWInit C W)) (cE : Cal P w K mg base "end_of_call" 1 ["calls", "start"] (spEnd K)) (cA : Cal P w K mg base "answer" 6 ["workshop", "call"] (spAnswer C W)) : FnOk P w K mg base CX0 7 f fd ["calls"] (spAnswers K) := by
  refine F.ok scAnswers (fun vs H Q E h => ?_) (fun cdv A outer s H vs Q E hr h => ?_)
  · obtain ⟨a, xs, r, rfl, _⟩ := h
    rfl
  · obtain ⟨a, xs, r, rfl, hs, hx, h400, kk⟩ := h
    have hr1 : Room 1 _ := hr.mono (by decide)
    have hr2 : Room 2 _ := hr.mono (by decide)
    refine ⟨_, pss_cons (ps_set (i := 1) scAnswers.nd rfl (Or.inl rfl) (pe_ncal0 cW hr2))
      (pss_cons (ps_set (i := 2) scAnswers.nd rfl (Or.inl rfl) (pe_lst pa_nil))
      (pss_cons (ps_set (i := 3) scAnswers.nd rfl (Or.inl rfl) pe_int)
      (pss_cons (ps_while PassesOwn.never (pt_cmp (pc_lt (pv 3) (pe_callB call_len_seq (by rfl) T.len PySem.boot_len (pa_cons (pv 0) pa_nil))))
        (pss_cons (ps_set (i := 4) scAnswers.nd rfl (Or.inl rfl) (pe_cal cE hr1 (pa_cons (pv 0) (pa_cons (pv 3) pa_nil))))
        (pss_cons (ps_set (i := 5) scAnswers.nd rfl (Or.inl rfl) (pe_cal cA hr (pa_cons (pv 1) (pa_cons (pe_slice sl_list (pv 0) (po_some (pv 3)) (po_some (pv 4))) pa_nil))))
        (pss_cons (ps_expr (pe_bm PySem.F.plainAttrs_list PySem.F.slot_list_append PySem.F.type_list_append mt_append (pv 2) (pa_cons (pe_callB call_len_seq (by rfl) T.len PySem.boot_len (pa_cons (pv 5) pa_nil)) pa_nil)))
        (pss_cons (ps_expr (pe_bm PySem.F.plainAttrs_list PySem.F.slot_list_extend PySem.F.type_list_extend mt_extend (pv 2) (pa_cons (pv 5) pa_nil)))
        (pss_one (ps_set (i := 3) scAnswers.nd rfl (Or.inl rfl) (pv 4))))))))
      (pss_one (ps_ret (pv 2)))))), ?_⟩
    intro ws dx nws ndx nex
    refine ⟨ws, dx, rfl, upd_same, fun H1 hws1 k1 => ⟨rfl, ?_⟩⟩
    have s1 : Same H H1 := Same.made nws ndx k1
    refine ⟨Nat.zero_le _, fun g hg => ?_⟩
    have s2 : Same H1 (upd H1 g (.lst [])) := same_new hg
    have hag : a ≠ g ∨ ∀ H'' : Hp, SqL K H'' a (iL (xs.flatMap encC)) := by
      rcases s1.seq hs with (z | ⟨o, z⟩) | z
      · exact .inl (ne_of_none z hg)
      · exact .inl (ne_of_none z hg)
      · exact .inr fun _ => .inr z
    refine ⟨fun m σ H' => ∃ (dn rest : List Kp193.Call) (given : List Int) (h : House) (v4 v5 : Option V), σ = [some (.ref a), some (.ref ws), some (.ref g), some (.int ((dn.flatMap encC).length : Int)), v4, v5] ∧ SqL K H' a (iL (xs.flatMap encC)) ∧ WsAt C W H' ws h ∧ H' g = some (.lst (iL given)) ∧
        xs = dn ++ rest ∧ given ++ playX (some h) rest = playX none xs ∧ given.length + 26 * rest.length ≤ 10400 ∧ m = rest.length,
      ⟨_, [], xs, [], Kp193.empty, none, none, rfl, (s1.trans s2).seq hs, hws1.same s2, upd_same, rfl, by rw [hx]; rfl, by simp; omega, rfl⟩, ?_⟩
    rintro m σ H2 ⟨dn, rest, given, h, v4, v5, rfl, hs2, hws2, hg2, hxs, hpl, hln, rfl⟩
    refine ⟨_, rfl, _, rfl, a, _, rfl, .inl hs2, _, _, rfl, rfl, _, rfl, ?_⟩
    rw [iL_len]
    refine ite2 (fun c => ?_) fun c => ?_
    · have c1 : ((dn.flatMap encC).length : Int) < ((xs.flatMap encC).length : Int) := of_decide_eq_true c
      cases rest with
      | nil =>
        rw [hxs, List.append_nil] at c1
        exact absurd c1 (Int.lt_irrefl _)
      | cons x rest =>
        have efl : xs.flatMap encC = dn.flatMap encC ++ (encC x ++ rest.flatMap encC) := by
          rw [hxs, List.flatMap_append, List.flatMap_cons]
        refine ⟨fun σ' H' => ∃ m', m' < (x :: rest).length ∧ ∃ (dn rest : List Kp193.Call) (given : List Int) (h : House) (v4 v5 : Option V), σ' = [some (.ref a), some (.ref ws), some (.ref g), some (.int ((dn.flatMap encC).length : Int)), v4, v5] ∧ SqL K H' a (iL (xs.flatMap encC)) ∧ WsAt C W H' ws h ∧ H' g = some (.lst (iL given)) ∧
          xs = dn ++ rest ∧ given ++ playX (some h) rest = playX none xs ∧ given.length + 26 * rest.length ≤ 10400 ∧ m' = rest.length, fun _ _ z => z, ?_⟩
        have hs3 := hs2
        rw [efl] at hs3
        refine ⟨_, rfl, _, rfl, a, dn.flatMap encC, rest.flatMap encC, x, rfl, hs3, ?_⟩
        refine ⟨_, rfl, _, rfl, _, rfl, _, rfl, _, rfl, _, rfl, a, _, rfl, hs3, fun cl hcl => ?_⟩
        rw [cut_mid]
        have s3 : Same H2 (upd H2 cl (.lst (iL (encC x)))) := same_new hcl
        obtain ⟨dxw, d, hw, t⟩ := hws2.same s3
        refine ⟨ws, cl, h, x, rfl, ⟨dxw, d, hw, t⟩, upd_same, fun H4 p h' e1 e2 e3 e4 e5 => ?_⟩
        have hg3 : (upd H2 cl (.lst (iL (encC x)))) g = some (.lst (iL given)) := s3 _ _ hg2
        have hg4 : H4 g = some (.lst (iL given)) := e3 _ _ hg3 (ne_of hg3 hw (by intro z; cases z)) (by intro kvs z; cases z)
        have hs4 : SqL K H4 a (iL (xs.flatMap encC)) := sq_keep hw e3 (s3.seq hs2)
        have ngp : g ≠ p := ne_of_none hg3 e4
        have al := ans_len h x
        rw [List.length_cons] at hln
        refine ⟨_, rfl, .inl ⟨rfl, _, SqL.of hg4⟩, _, rfl, p, _, rfl, .inl (SqL.of e5), g, _, _, rfl, rfl, hg4, (by rw [iL_len]; exact lt_line (by omega)), ?_⟩
        rw [iL_len]
        have hg5 : (upd H4 g (.lst (iL given ++ [.int ((ans (Kp193.step (some h) x).2).length : Int)]))) g = some (.lst (iL (given ++ [((ans (Kp193.step (some h) x).2).length : Int)]))) := by
          rw [upd_same, iL_snoc]
        have hp5 : (upd H4 g (.lst (iL given ++ [.int ((ans (Kp193.step (some h) x).2).length : Int)]))) p = some (.lst (iL (ans (Kp193.step (some h) x).2))) := by
          rw [upd_ne (fun z => ngp z.symm)]
          exact e5
        refine ⟨_, rfl, .inl ⟨rfl, _, SqL.of hg5⟩, _, rfl, g, p, _, _, rfl, rfl, hg5, hp5, (by rw [iL_len, iL_len, List.length_append, List.length_singleton]; exact Nat.le_of_lt (lt_line (by omega))), ?_⟩
        rw [upd_upd]
        obtain ⟨dx', d', hw', t'⟩ := e2
        have ngw : ws ≠ g := ne_of hw' hg4 (by intro z; cases z)
        have keepG : ∀ (o : HO) (b : Addr) (u : HO), H4 b = some u → b ≠ g → (upd H4 g o) b = some u := fun o b u hb hne => by
          rw [upd_ne hne]
          exact hb
        refine ⟨_, rfl, rest.length, by rw [List.length_cons]; omega, dn ++ [x], rest, given ++ (((ans (Kp193.step (some h) x).2).length : Int) :: ans (Kp193.step (some h) x).2), h', some (.int (((dn.flatMap encC).length + (encC x).length : Nat) : Int)), some (.ref p), ?_, ?_, ?_, ?_, by rw [hxs, List.append_assoc]; rfl, ?_, ?_, rfl⟩
        · have el : ((dn ++ [x]).flatMap encC).length = (dn.flatMap encC).length + (encC x).length := by
            rw [List.flatMap_append, List.length_append, List.flatMap_cons, List.flatMap_nil, List.append_nil]
          rw [el]
          rfl
        · -- the handed list
          rcases hag with hag | hag
          · rcases hs4 with (z | ⟨o, z⟩) | z
            · exact .inl (.inl (keepG _ _ _ z hag))
            · exact .inl (.inr ⟨o, keepG _ _ _ z hag⟩)
            · exact .inr z
          · exact hag _
        · exact ⟨dx', d', keepG _ _ _ hw' ngw, told_lst hg4 t'⟩
        · rw [upd_same]
          unfold iL
          rw [List.map_append, List.map_append, List.append_assoc]
          rfl
        · rw [← hpl, List.append_assoc]
          show given ++ (_ ++ playX (some h') rest) = given ++ (_ :: (_ ++ playX (Kp193.step (some h) x).1 rest))
          rw [e1]
          rfl
        · rw [List.length_append, List.length_cons]
          omega
    · have c1 : ¬ ((dn.flatMap encC).length : Int) < ((xs.flatMap encC).length : Int) := fun z => c (decide_eq_true z)
      cases rest with
      | cons x rest =>
        exfalso
        apply c1
        rw [hxs, List.flatMap_append, List.flatMap_cons, List.length_append, List.length_append]
        have := enc_pos x
        omega
      | nil =>
        have e : given = playX none xs := by
          rw [← hpl]
          exact (List.append_nil _).symm
        rw [e] at hg2
        exact ⟨_, rfl, kk H2 g hg2⟩
end
end Pt
end
section
set_option Elab.async false
set_option linter.all false
set_option maxRecDepth 100000
set_option maxHeartbeats 4000000
namespace Pt
open PySem PySem.Spec PyProof.Rows L2 Ru Pm
open Kp193 (Q House Making making usesOf makesOf outOf frac)
theorem all_mk {P : Program} {w : World} {K : PySem.W.Frag} {h : Heap} {mg : Str → Option Value} {fa C W L f0 f1 f2 f3 f4 f5 f6 f7 f8 f9 f10 f11 f12 f13 f14 f15 f16 f17 f18 f19 f20 f21 f22 f23 f24 f25 f26 f27 f28 f29 f30 : Addr} {t_kinds t_mostMade t_mostOut t_mostUsed t_mostOrd t_great t_done t_notTold t_wrong t_cannot t_usedNot t_tooGreat t_begin_ t_tell t_forget t_took t_runs : Tok} {es : Array DictEntry} {ep : Nat} (X : K.In h) (G : h.Ns mainGlobals mg) (hfa : mg "answers" = some (.ref fa))
    {od0 an0 : Option Addr} {sl0 : Array (Option Value)} {oc0 kV0 dc0 pm0 cd0 ct0 : Value}
    {od1 an1 : Option Addr} {sl1 : Array (Option Value)} {oc1 kV1 dc1 pm1 cd1 ct1 : Value}
    {od2 an2 : Option Addr} {sl2 : Array (Option Value)} {oc2 kV2 dc2 pm2 cd2 ct2 : Value}
    {od3 an3 : Option Addr} {sl3 : Array (Option Value)} {oc3 kV3 dc3 pm3 cd3 ct3 : Value}
    {od4 an4 : Option Addr} {sl4 : Array (Option Value)} {oc4 kV4 dc4 pm4 cd4 ct4 : Value}
    {od5 an5 : Option Addr} {sl5 : Array (Option Value)} {oc5 kV5 dc5 pm5 cd5 ct5 : Value}
    {od6 an6 : Option Addr} {sl6 : Array (Option Value)} {oc6 kV6 dc6 pm6 cd6 ct6 : Value}
    {od7 an7 : Option Addr} {sl7 : Array (Option Value)} {oc7 kV7 dc7 pm7 cd7 ct7 : Value}
    {od8 an8 : Option Addr} {sl8 : Array (Option Value)} {oc8 kV8 dc8 pm8 cd8 ct8 : Value}
    {od9 an9 : Option Addr} {sl9 : Array (Option Value)} {oc9 kV9 dc9 pm9 cd9 ct9 : Value}
    {od10 an10 : Option Addr} {sl10 : Array (Option Value)} {oc10 kV10 dc10 pm10 cd10 ct10 : Value}
    {od11 an11 : Option Addr} {sl11 : Array (Option Value)} {oc11 kV11 dc11 pm11 cd11 ct11 : Value}
    {od12 an12 : Option Addr} {sl12 : Array (Option Value)} {oc12 kV12 dc12 pm12 cd12 ct12 : Value}
    {od13 an13 : Option Addr} {sl13 : Array (Option Value)} {oc13 kV13 dc13 pm13 cd13 ct13 : Value}
    {od14 an14 : Option Addr} {sl14 : Array (Option Value)} {oc14 kV14 dc14 pm14 cd14 ct14 : Value}
    {od15 an15 : Option Addr} {sl15 : Array (Option Value)} {oc15 kV15 dc15 pm15 cd15 ct15 : Value}
    {od16 an16 : Option Addr} {sl16 : Array (Option Value)} {oc16 kV16 dc16 pm16 cd16 ct16 : Value}
    {od17 an17 : Option Addr} {sl17 : Array (Option Value)} {oc17 kV17 dc17 pm17 cd17 ct17 : Value}
    {od18 an18 : Option Addr} {sl18 : Array (Option Value)} {oc18 kV18 dc18 pm18 cd18 ct18 : Value}
    {od19 an19 : Option Addr} {sl19 : Array (Option Value)} {oc19 kV19 dc19 pm19 cd19 ct19 : Value}
    {od20 an20 : Option Addr} {sl20 : Array (Option Value)} {oc20 kV20 dc20 pm20 cd20 ct20 : Value}
    {od21 an21 : Option Addr} {sl21 : Array (Option Value)} {oc21 kV21 dc21 pm21 cd21 ct21 : Value}
    {od22 an22 : Option Addr} {sl22 : Array (Option Value)} {oc22 kV22 dc22 pm22 cd22 ct22 : Value}
    {od23 an23 : Option Addr} {sl23 : Array (Option Value)} {oc23 kV23 dc23 pm23 cd23 ct23 : Value}
    {od24 an24 : Option Addr} {sl24 : Array (Option Value)} {oc24 kV24 dc24 pm24 cd24 ct24 : Value}
    {od25 an25 : Option Addr} {sl25 : Array (Option Value)} {oc25 kV25 dc25 pm25 cd25 ct25 : Value}
    {od26 an26 : Option Addr} {sl26 : Array (Option Value)} {oc26 kV26 dc26 pm26 cd26 ct26 : Value}
    {od27 an27 : Option Addr} {sl27 : Array (Option Value)} {oc27 kV27 dc27 pm27 cd27 ct27 : Value}
    {od28 an28 : Option Addr} {sl28 : Array (Option Value)} {oc28 kV28 dc28 pm28 cd28 ct28 : Value}
    {od29 an29 : Option Addr} {sl29 : Array (Option Value)} {oc29 kV29 dc29 pm29 cd29 ct29 : Value}
    {od30 an30 : Option Addr} {sl30 : Array (Option Value)} {oc30 kV30 dc30 pm30 cd30 ct30 : Value}
    (aC : PySem.W.nsIn K mainGlobals "Making" = some (some (.ref C)))
    (aW : PySem.W.nsIn K mainGlobals "Workshop" = some (some (.ref W)))
    (a0 : PySem.W.nsIn K mainGlobals "is_kind" = some (some (.ref f0)))
    (l0 : K.lookup f0 = some ⟨oc0, od0, .func (PySem.W.fnOf "is_kind" "is_kind" (defArgs sIsKind) (defBody sIsKind) (defScope sIsKind) .none kV0 dc0 pm0 an0 cd0 ct0), sl0⟩)
    (c0 : PySem.W.codeIn K cd0 "is_kind" = true)
    (k0 : PySem.W.keepIn K (.ref f0) = true)
    (a1 : PySem.W.nsIn K mainGlobals "are_uses" = some (some (.ref f1)))
    (l1 : K.lookup f1 = some ⟨oc1, od1, .func (PySem.W.fnOf "are_uses" "are_uses" (defArgs sAreUses) (defBody sAreUses) (defScope sAreUses) .none kV1 dc1 pm1 an1 cd1 ct1), sl1⟩)
    (c1 : PySem.W.codeIn K cd1 "are_uses" = true)
    (k1 : PySem.W.keepIn K (.ref f1) = true)
    (a2 : PySem.W.nsIn K mainGlobals "is_making" = some (some (.ref f2)))
    (l2 : K.lookup f2 = some ⟨oc2, od2, .func (PySem.W.fnOf "is_making" "is_making" (defArgs sIsMaking) (defBody sIsMaking) (defScope sIsMaking) .none kV2 dc2 pm2 an2 cd2 ct2), sl2⟩)
    (c2 : PySem.W.codeIn K cd2 "is_making" = true)
    (k2 : PySem.W.keepIn K (.ref f2) = true)
    (a3 : PySem.W.findIn K (.ref C) "__init__" = some (some (.ref f3)))
    (i3 : PySem.W.isFn K (.ref f3) = true)
    (l3 : K.lookup f3 = some ⟨oc3, od3, .func (PySem.W.fnOf "__init__" "Making.__init__" (defArgs sMInit) (defBody sMInit) (defScope sMInit) .none kV3 dc3 pm3 an3 cd3 ct3), sl3⟩)
    (c3 : PySem.W.codeIn K cd3 "Making.__init__" = true)
    (k3 : PySem.W.keepIn K (.ref f3) = true)
    (a4 : PySem.W.findIn K (.ref C) "leaves" = some (some (.ref f4)))
    (i4 : PySem.W.isFn K (.ref f4) = true)
    (l4 : K.lookup f4 = some ⟨oc4, od4, .func (PySem.W.fnOf "leaves" "Making.leaves" (defArgs sLeaves) (defBody sLeaves) (defScope sLeaves) .none kV4 dc4 pm4 an4 cd4 ct4), sl4⟩)
    (c4 : PySem.W.codeIn K cd4 "Making.leaves" = true)
    (k4 : PySem.W.keepIn K (.ref f4) = true)
    (a5 : PySem.W.nsIn K mainGlobals "used_by" = some (some (.ref f5)))
    (l5 : K.lookup f5 = some ⟨oc5, od5, .func (PySem.W.fnOf "used_by" "used_by" (defArgs sUsedBy) (defBody sUsedBy) (defScope sUsedBy) .none kV5 dc5 pm5 an5 cd5 ct5), sl5⟩)
    (c5 : PySem.W.codeIn K cd5 "used_by" = true)
    (k5 : PySem.W.keepIn K (.ref f5) = true)
    (a6 : PySem.W.nsIn K mainGlobals "used_for" = some (some (.ref f6)))
    (l6 : K.lookup f6 = some ⟨oc6, od6, .func (PySem.W.fnOf "used_for" "used_for" (defArgs sUsedFor) (defBody sUsedFor) (defScope sUsedFor) .none kV6 dc6 pm6 an6 cd6 ct6), sl6⟩)
    (c6 : PySem.W.codeIn K cd6 "used_for" = true)
    (k6 : PySem.W.keepIn K (.ref f6) = true)
    (a7 : PySem.W.nsIn K mainGlobals "taking_equation" = some (some (.ref f7)))
    (l7 : K.lookup f7 = some ⟨oc7, od7, .func (PySem.W.fnOf "taking_equation" "taking_equation" (defArgs sTakeEq) (defBody sTakeEq) (defScope sTakeEq) .none kV7 dc7 pm7 an7 cd7 ct7), sl7⟩)
    (c7 : PySem.W.codeIn K cd7 "taking_equation" = true)
    (k7 : PySem.W.keepIn K (.ref f7) = true)
    (a8 : PySem.W.nsIn K mainGlobals "running_equation" = some (some (.ref f8)))
    (l8 : K.lookup f8 = some ⟨oc8, od8, .func (PySem.W.fnOf "running_equation" "running_equation" (defArgs sRunEq) (defBody sRunEq) (defScope sRunEq) .none kV8 dc8 pm8 an8 cd8 ct8), sl8⟩)
    (c8 : PySem.W.codeIn K cd8 "running_equation" = true)
    (k8 : PySem.W.keepIn K (.ref f8) = true)
    (a9 : PySem.W.nsIn K mainGlobals "taking_equations" = some (some (.ref f9)))
    (l9 : K.lookup f9 = some ⟨oc9, od9, .func (PySem.W.fnOf "taking_equations" "taking_equations" (defArgs sTakeEqs) (defBody sTakeEqs) (defScope sTakeEqs) .none kV9 dc9 pm9 an9 cd9 ct9), sl9⟩)
    (c9 : PySem.W.codeIn K cd9 "taking_equations" = true)
    (k9 : PySem.W.keepIn K (.ref f9) = true)
    (a10 : PySem.W.nsIn K mainGlobals "running_equations" = some (some (.ref f10)))
    (l10 : K.lookup f10 = some ⟨oc10, od10, .func (PySem.W.fnOf "running_equations" "running_equations" (defArgs sRunEqs) (defBody sRunEqs) (defScope sRunEqs) .none kV10 dc10 pm10 an10 cd10 ct10), sl10⟩)
    (c10 : PySem.W.codeIn K cd10 "running_equations" = true)
    (k10 : PySem.W.keepIn K (.ref f10) = true)
    (a11 : PySem.W.nsIn K mainGlobals "lowest_terms" = some (some (.ref f11)))
    (l11 : K.lookup f11 = some ⟨oc11, od11, .func (PySem.W.fnOf "lowest_terms" "lowest_terms" (defArgs sLowest) (defBody sLowest) (defScope sLowest) .none kV11 dc11 pm11 an11 cd11 ct11), sl11⟩)
    (c11 : PySem.W.codeIn K cd11 "lowest_terms" = true)
    (k11 : PySem.W.keepIn K (.ref f11) = true)
    (a12 : PySem.W.nsIn K mainGlobals "without_unknown" = some (some (.ref f12)))
    (l12 : K.lookup f12 = some ⟨oc12, od12, .func (PySem.W.fnOf "without_unknown" "without_unknown" (defArgs sWithout) (defBody sWithout) (defScope sWithout) .none kV12 dc12 pm12 an12 cd12 ct12), sl12⟩)
    (c12 : PySem.W.codeIn K cd12 "without_unknown" = true)
    (k12 : PySem.W.keepIn K (.ref f12) = true)
    (a13 : PySem.W.nsIn K mainGlobals "solved" = some (some (.ref f13)))
    (l13 : K.lookup f13 = some ⟨oc13, od13, .func (PySem.W.fnOf "solved" "solved" (defArgs sSolved) (defBody sSolved) (defScope sSolved) .none kV13 dc13 pm13 an13 cd13 ct13), sl13⟩)
    (c13 : PySem.W.codeIn K cd13 "solved" = true)
    (k13 : PySem.W.keepIn K (.ref f13) = true)
    (a14 : PySem.W.nsIn K mainGlobals "is_too_great" = some (some (.ref f14)))
    (l14 : K.lookup f14 = some ⟨oc14, od14, .func (PySem.W.fnOf "is_too_great" "is_too_great" (defArgs sTooGreat) (defBody sTooGreat) (defScope sTooGreat) .none kV14 dc14 pm14 an14 cd14 ct14), sl14⟩)
    (c14 : PySem.W.codeIn K cd14 "is_too_great" = true)
    (k14 : PySem.W.keepIn K (.ref f14) = true)
    (a15 : PySem.W.nsIn K mainGlobals "fraction_answer" = some (some (.ref f15)))
    (l15 : K.lookup f15 = some ⟨oc15, od15, .func (PySem.W.fnOf "fraction_answer" "fraction_answer" (defArgs sFracAns) (defBody sFracAns) (defScope sFracAns) .none kV15 dc15 pm15 an15 cd15 ct15), sl15⟩)
    (c15 : PySem.W.codeIn K cd15 "fraction_answer" = true)
    (k15 : PySem.W.keepIn K (.ref f15) = true)
    (a16 : PySem.W.nsIn K mainGlobals "runs_answer" = some (some (.ref f16)))
    (l16 : K.lookup f16 = some ⟨oc16, od16, .func (PySem.W.fnOf "runs_answer" "runs_answer" (defArgs sRunsAns) (defBody sRunsAns) (defScope sRunsAns) .none kV16 dc16 pm16 an16 cd16 ct16), sl16⟩)
    (c16 : PySem.W.codeIn K cd16 "runs_answer" = true)
    (k16 : PySem.W.keepIn K (.ref f16) = true)
    (a17 : PySem.W.nsIn K mainGlobals "let_out_together" = some (some (.ref f17)))
    (l17 : K.lookup f17 = some ⟨oc17, od17, .func (PySem.W.fnOf "let_out_together" "let_out_together" (defArgs sLetOutT) (defBody sLetOutT) (defScope sLetOutT) .none kV17 dc17 pm17 an17 cd17 ct17), sl17⟩)
    (c17 : PySem.W.codeIn K cd17 "let_out_together" = true)
    (k17 : PySem.W.keepIn K (.ref f17) = true)
    (a18 : PySem.W.findIn K (.ref W) "__init__" = some (some (.ref f18)))
    (i18 : PySem.W.isFn K (.ref f18) = true)
    (l18 : K.lookup f18 = some ⟨oc18, od18, .func (PySem.W.fnOf "__init__" "Workshop.__init__" (defArgs sWInit) (defBody sWInit) (defScope sWInit) .none kV18 dc18 pm18 an18 cd18 ct18), sl18⟩)
    (c18 : PySem.W.codeIn K cd18 "Workshop.__init__" = true)
    (k18 : PySem.W.keepIn K (.ref f18) = true)
    (a19 : PySem.W.findIn K (.ref W) "begin" = some (some (.ref f19)))
    (i19 : PySem.W.isFn K (.ref f19) = true)
    (l19 : K.lookup f19 = some ⟨oc19, od19, .func (PySem.W.fnOf "begin" "Workshop.begin" (defArgs sBegin) (defBody sBegin) (defScope sBegin) .none kV19 dc19 pm19 an19 cd19 ct19), sl19⟩)
    (c19 : PySem.W.codeIn K cd19 "Workshop.begin" = true)
    (k19 : PySem.W.keepIn K (.ref f19) = true)
    (a20 : PySem.W.findIn K (.ref W) "tell" = some (some (.ref f20)))
    (i20 : PySem.W.isFn K (.ref f20) = true)
    (l20 : K.lookup f20 = some ⟨oc20, od20, .func (PySem.W.fnOf "tell" "Workshop.tell" (defArgs sTell) (defBody sTell) (defScope sTell) .none kV20 dc20 pm20 an20 cd20 ct20), sl20⟩)
    (c20 : PySem.W.codeIn K cd20 "Workshop.tell" = true)
    (k20 : PySem.W.keepIn K (.ref f20) = true)
    (a21 : PySem.W.findIn K (.ref W) "refusal_of_kind" = some (some (.ref f21)))
    (i21 : PySem.W.isFn K (.ref f21) = true)
    (l21 : K.lookup f21 = some ⟨oc21, od21, .func (PySem.W.fnOf "refusal_of_kind" "Workshop.refusal_of_kind" (defArgs sRefKind) (defBody sRefKind) (defScope sRefKind) .none kV21 dc21 pm21 an21 cd21 ct21), sl21⟩)
    (c21 : PySem.W.codeIn K cd21 "Workshop.refusal_of_kind" = true)
    (k21 : PySem.W.keepIn K (.ref f21) = true)
    (a22 : PySem.W.findIn K (.ref W) "forget" = some (some (.ref f22)))
    (i22 : PySem.W.isFn K (.ref f22) = true)
    (l22 : K.lookup f22 = some ⟨oc22, od22, .func (PySem.W.fnOf "forget" "Workshop.forget" (defArgs sForget) (defBody sForget) (defScope sForget) .none kV22 dc22 pm22 an22 cd22 ct22), sl22⟩)
    (c22 : PySem.W.codeIn K cd22 "Workshop.forget" = true)
    (k22 : PySem.W.keepIn K (.ref f22) = true)
    (a23 : PySem.W.findIn K (.ref W) "refusal_of_question" = some (some (.ref f23)))
    (i23 : PySem.W.isFn K (.ref f23) = true)
    (l23 : K.lookup f23 = some ⟨oc23, od23, .func (PySem.W.fnOf "refusal_of_question" "Workshop.refusal_of_question" (defArgs sRefQ) (defBody sRefQ) (defScope sRefQ) .none kV23 dc23 pm23 an23 cd23 ct23), sl23⟩)
    (c23 : PySem.W.codeIn K cd23 "Workshop.refusal_of_question" = true)
    (k23 : PySem.W.keepIn K (.ref f23) = true)
    (a24 : PySem.W.findIn K (.ref W) "refusal_of_order" = some (some (.ref f24)))
    (i24 : PySem.W.isFn K (.ref f24) = true)
    (l24 : K.lookup f24 = some ⟨oc24, od24, .func (PySem.W.fnOf "refusal_of_order" "Workshop.refusal_of_order" (defArgs sRefOrd) (defBody sRefOrd) (defScope sRefOrd) .none kV24 dc24 pm24 an24 cd24 ct24), sl24⟩)
    (c24 : PySem.W.codeIn K cd24 "Workshop.refusal_of_order" = true)
    (k24 : PySem.W.keepIn K (.ref f24) = true)
    (a25 : PySem.W.findIn K (.ref W) "took" = some (some (.ref f25)))
    (i25 : PySem.W.isFn K (.ref f25) = true)
    (l25 : K.lookup f25 = some ⟨oc25, od25, .func (PySem.W.fnOf "took" "Workshop.took" (defArgs sTook) (defBody sTook) (defScope sTook) .none kV25 dc25 pm25 an25 cd25 ct25), sl25⟩)
    (c25 : PySem.W.codeIn K cd25 "Workshop.took" = true)
    (k25 : PySem.W.keepIn K (.ref f25) = true)
    (a26 : PySem.W.findIn K (.ref W) "runs" = some (some (.ref f26)))
    (i26 : PySem.W.isFn K (.ref f26) = true)
    (l26 : K.lookup f26 = some ⟨oc26, od26, .func (PySem.W.fnOf "runs" "Workshop.runs" (defArgs sRuns) (defBody sRuns) (defScope sRuns) .none kV26 dc26 pm26 an26 cd26 ct26), sl26⟩)
    (c26 : PySem.W.codeIn K cd26 "Workshop.runs" = true)
    (k26 : PySem.W.keepIn K (.ref f26) = true)
    (a27 : PySem.W.findIn K (.ref W) "let_out" = some (some (.ref f27)))
    (i27 : PySem.W.isFn K (.ref f27) = true)
    (l27 : K.lookup f27 = some ⟨oc27, od27, .func (PySem.W.fnOf "let_out" "Workshop.let_out" (defArgs sLetOut) (defBody sLetOut) (defScope sLetOut) .none kV27 dc27 pm27 an27 cd27 ct27), sl27⟩)
    (c27 : PySem.W.codeIn K cd27 "Workshop.let_out" = true)
    (k27 : PySem.W.keepIn K (.ref f27) = true)
    (a28 : PySem.W.nsIn K mainGlobals "end_of_call" = some (some (.ref f28)))
    (l28 : K.lookup f28 = some ⟨oc28, od28, .func (PySem.W.fnOf "end_of_call" "end_of_call" (defArgs sEnd) (defBody sEnd) (defScope sEnd) .none kV28 dc28 pm28 an28 cd28 ct28), sl28⟩)
    (c28 : PySem.W.codeIn K cd28 "end_of_call" = true)
    (k28 : PySem.W.keepIn K (.ref f28) = true)
    (a29 : PySem.W.nsIn K mainGlobals "answer" = some (some (.ref f29)))
    (l29 : K.lookup f29 = some ⟨oc29, od29, .func (PySem.W.fnOf "answer" "answer" (defArgs sAnswer) (defBody sAnswer) (defScope sAnswer) .none kV29 dc29 pm29 an29 cd29 ct29), sl29⟩)
    (c29 : PySem.W.codeIn K cd29 "answer" = true)
    (k29 : PySem.W.keepIn K (.ref f29) = true)
    (a30 : PySem.W.nsIn K mainGlobals "answers" = some (some (.ref f30)))
    (l30 : K.lookup f30 = some ⟨oc30, od30, .func (PySem.W.fnOf "answers" "answers" (defArgs sAnswers) (defBody sAnswers) (defScope sAnswers) .none kV30 dc30 pm30 an30 cd30 ct30), sl30⟩)
    (c30 : PySem.W.codeIn K cd30 "answers" = true)
    (k30 : PySem.W.keepIn K (.ref f30) = true)
    (pgC : PySem.W.plainGet K C Str.empty = true)
    (hdC : PySem.W.hasDictIn K C = true)
    (poC : PySem.W.plainOver K C = true)
    (saC : PySem.W.findIn K (.ref C) "__setattr__" = some (some (.builtin "object.__setattr__")))
    (mkC : PySem.W.makesIn K C = true)
    (kcC : PySem.W.keepIn K (.ref C) = true)
    (pgW : PySem.W.plainGet K W Str.empty = true)
    (hdW : PySem.W.hasDictIn K W = true)
    (poW : PySem.W.plainOver K W = true)
    (saW : PySem.W.findIn K (.ref W) "__setattr__" = some (some (.builtin "object.__setattr__")))
    (mkW : PySem.W.makesIn K W = true)
    (kcW : PySem.W.keepIn K (.ref W) = true)
    (n_kind : PySem.W.findIn K (.ref C) "kind" = some none)
    (n_makes : PySem.W.findIn K (.ref C) "makes" = some none)
    (n_out : PySem.W.findIn K (.ref C) "out" = some none)
    (n_uses : PySem.W.findIn K (.ref C) "uses" = some none)
    (n_told : PySem.W.findIn K (.ref W) "told" = some none)
    (g_kinds : PySem.W.nsIn K mainGlobals "KINDS" = some (some (.int 8 t_kinds)))
    (g_mostMade : PySem.W.nsIn K mainGlobals "MOST_MADE" = some (some (.int 1000 t_mostMade)))
    (g_mostOut : PySem.W.nsIn K mainGlobals "MOST_LET_OUT" = some (some (.int 1000000 t_mostOut)))
    (g_mostUsed : PySem.W.nsIn K mainGlobals "MOST_USED" = some (some (.int 1000 t_mostUsed)))
    (g_mostOrd : PySem.W.nsIn K mainGlobals "MOST_ORDERED" = some (some (.int 1000000 t_mostOrd)))
    (g_great : PySem.W.nsIn K mainGlobals "TOO_GREAT_FROM" = some (some (.int 4611686018427387904 t_great)))
    (g_done : PySem.W.nsIn K mainGlobals "DONE" = some (some (.int 0 t_done)))
    (g_notTold : PySem.W.nsIn K mainGlobals "NOT_TOLD" = some (some (.int (-2) t_notTold)))
    (g_wrong : PySem.W.nsIn K mainGlobals "WRONG" = some (some (.int (-22) t_wrong)))
    (g_cannot : PySem.W.nsIn K mainGlobals "CANNOT_BE" = some (some (.int (-33) t_cannot)))
    (g_usedNot : PySem.W.nsIn K mainGlobals "USED_BUT_NOT_TOLD" = some (some (.int (-61) t_usedNot)))
    (g_tooGreat : PySem.W.nsIn K mainGlobals "TOO_GREAT" = some (some (.int (-75) t_tooGreat)))
    (g_begin_ : PySem.W.nsIn K mainGlobals "BEGIN" = some (some (.int 0 t_begin_)))
    (g_tell : PySem.W.nsIn K mainGlobals "TELL" = some (some (.int 1 t_tell)))
    (g_forget : PySem.W.nsIn K mainGlobals "FORGET" = some (some (.int 2 t_forget)))
    (g_took : PySem.W.nsIn K mainGlobals "TOOK" = some (some (.int 3 t_took)))
    (g_runs : PySem.W.nsIn K mainGlobals "RUNS" = some (some (.int 4 t_runs)))
    (z_len : PySem.W.nsIn K mainGlobals "len" = some none)
    (z_max : PySem.W.nsIn K mainGlobals "max" = some none)
    (z_tuple : PySem.W.nsIn K mainGlobals "tuple" = some none)
    (z_range : PySem.W.nsIn K mainGlobals "range" = some none)
    (z_sorted : PySem.W.nsIn K mainGlobals "sorted" = some none)
    (z_zip : PySem.W.nsIn K mainGlobals "zip" = some none)
    (z_any : PySem.W.nsIn K mainGlobals "any" = some none)
    (aL : PySem.W.nsIn K mainGlobals "LENGTHS" = some (some (.ref L)))
    (lL : K.lookup L = some ⟨.type "dict", none, .dict es ep, #[]⟩)
    (tL : tabOk es.toList lens = true) :
    ∃ fd : FuncData, (∀ (s : Shared) (us : List Value), us.length = (["calls"] : List Str).length → BindsTo s fd ⟨us, []⟩ ((["calls"] : List Str).zip us)) ∧ ∀ base : Heap, K.In base → base.Ns mainGlobals mg → FnOk P w K mg base CX0 7 fa fd ["calls"] (spAnswers K) := by
  have e := hfa.symm.trans (PySem.W.mg_of X G a30)
  cases e
  have T : Txt K mg C W L := ⟨⟨_, PySem.W.mg_of X G g_kinds⟩, ⟨_, PySem.W.mg_of X G g_mostMade⟩, ⟨_, PySem.W.mg_of X G g_mostOut⟩, ⟨_, PySem.W.mg_of X G g_mostUsed⟩, ⟨_, PySem.W.mg_of X G g_mostOrd⟩, ⟨_, PySem.W.mg_of X G g_great⟩, ⟨_, PySem.W.mg_of X G g_done⟩, ⟨_, PySem.W.mg_of X G g_notTold⟩, ⟨_, PySem.W.mg_of X G g_wrong⟩, ⟨_, PySem.W.mg_of X G g_cannot⟩, ⟨_, PySem.W.mg_of X G g_usedNot⟩, ⟨_, PySem.W.mg_of X G g_tooGreat⟩, ⟨_, PySem.W.mg_of X G g_begin_⟩, ⟨_, PySem.W.mg_of X G g_tell⟩, ⟨_, PySem.W.mg_of X G g_forget⟩, ⟨_, PySem.W.mg_of X G g_took⟩, ⟨_, PySem.W.mg_of X G g_runs⟩, PySem.W.mg_of X G aL, ⟨⟨es, ep, lL, tL⟩, by decide⟩, PySem.W.mg_none_of X G z_len, PySem.W.mg_none_of X G z_max, PySem.W.mg_none_of X G z_tuple, PySem.W.mg_none_of X G z_range, PySem.W.mg_none_of X G z_sorted, PySem.W.mg_none_of X G z_zip, PySem.W.mg_none_of X G z_any, ⟨pgC, hdC, poC, saC⟩, n_kind, n_makes, n_out, n_uses, PySem.W.mg_of X G aC, ⟨pgW, hdW, poW, saW⟩, n_told, PySem.W.mg_of X G aW⟩
  have F0 := fun_mk (st := sIsKind) l0 c0 k0
  have b0 := F0.binds (ps := ["k"]) fun _ _ _ _ _ _ us hl => match us, hl with | [_], _ => rfl
  have F1 := fun_mk (st := sAreUses) l1 c1 k1
  have b1 := F1.binds (ps := ["uses"]) fun _ _ _ _ _ _ us hl => match us, hl with | [_], _ => rfl
  have F2 := fun_mk (st := sIsMaking) l2 c2 k2
  have b2 := F2.binds (ps := ["makes", "out", "uses"]) fun _ _ _ _ _ _ us hl => match us, hl with | [_, _, _], _ => rfl
  have F3 := fun_mk (st := sMInit) l3 c3 k3
  have b3 := F3.binds (ps := ["self", "kind", "makes", "out", "uses"]) fun _ _ _ _ _ _ us hl => match us, hl with | [_, _, _, _, _], _ => rfl
  have F4 := fun_mk (st := sLeaves) l4 c4 k4
  have b4 := F4.binds (ps := ["self", "kind"]) fun _ _ _ _ _ _ us hl => match us, hl with | [_, _], _ => rfl
  have F5 := fun_mk (st := sUsedBy) l5 c5 k5
  have b5 := F5.binds (ps := ["told", "k"]) fun _ _ _ _ _ _ us hl => match us, hl with | [_, _], _ => rfl
  have F6 := fun_mk (st := sUsedFor) l6 c6 k6
  have b6 := F6.binds (ps := ["told", "k"]) fun _ _ _ _ _ _ us hl => match us, hl with | [_, _], _ => rfl
  have F7 := fun_mk (st := sTakeEq) l7 c7 k7
  have b7 := F7.binds (ps := ["told", "kinds", "kind"]) fun _ _ _ _ _ _ us hl => match us, hl with | [_, _, _], _ => rfl
  have F8 := fun_mk (st := sRunEq) l8 c8 k8
  have b8 := F8.binds (ps := ["told", "kinds", "kind", "ordered"]) fun _ _ _ _ _ _ us hl => match us, hl with | [_, _, _, _], _ => rfl
  have F9 := fun_mk (st := sTakeEqs) l9 c9 k9
  have b9 := F9.binds (ps := ["told", "kinds"]) fun _ _ _ _ _ _ us hl => match us, hl with | [_, _], _ => rfl
  have F10 := fun_mk (st := sRunEqs) l10 c10 k10
  have b10 := F10.binds (ps := ["told", "kinds", "k", "n"]) fun _ _ _ _ _ _ us hl => match us, hl with | [_, _, _, _], _ => rfl
  have F11 := fun_mk (st := sLowest) l11 c11 k11
  have b11 := F11.binds (ps := ["above", "below"]) fun _ _ _ _ _ _ us hl => match us, hl with | [_, _], _ => rfl
  have F12 := fun_mk (st := sWithout) l12 c12 k12
  have b12 := F12.binds (ps := ["equation", "first", "at"]) fun _ _ _ _ _ _ us hl => match us, hl with | [_, _, _], _ => rfl
  have F13 := fun_mk (st := sSolved) l13 c13 k13
  have b13 := F13.binds (ps := ["equations"]) fun _ _ _ _ _ _ us hl => match us, hl with | [_], _ => rfl
  have F14 := fun_mk (st := sTooGreat) l14 c14 k14
  have b14 := F14.binds (ps := ["fraction"]) fun _ _ _ _ _ _ us hl => match us, hl with | [_], _ => rfl
  have F15 := fun_mk (st := sFracAns) l15 c15 k15
  have b15 := F15.binds (ps := ["fraction"]) fun _ _ _ _ _ _ us hl => match us, hl with | [_], _ => rfl
  have F16 := fun_mk (st := sRunsAns) l16 c16 k16
  have b16 := F16.binds (ps := ["kinds", "fractions"]) fun _ _ _ _ _ _ us hl => match us, hl with | [_, _], _ => rfl
  have F17 := fun_mk (st := sLetOutT) l17 c17 k17
  have b17 := F17.binds (ps := ["told", "kinds", "fractions"]) fun _ _ _ _ _ _ us hl => match us, hl with | [_, _, _], _ => rfl
  have F18 := fun_mk (st := sWInit) l18 c18 k18
  have b18 := F18.binds (ps := ["self"]) fun _ _ _ _ _ _ us hl => match us, hl with | [_], _ => rfl
  have F19 := fun_mk (st := sBegin) l19 c19 k19
  have b19 := F19.binds (ps := ["self"]) fun _ _ _ _ _ _ us hl => match us, hl with | [_], _ => rfl
  have F20 := fun_mk (st := sTell) l20 c20 k20
  have b20 := F20.binds (ps := ["self", "k", "makes", "out", "uses"]) fun _ _ _ _ _ _ us hl => match us, hl with | [_, _, _, _, _], _ => rfl
  have F21 := fun_mk (st := sRefKind) l21 c21 k21
  have b21 := F21.binds (ps := ["self", "k"]) fun _ _ _ _ _ _ us hl => match us, hl with | [_, _], _ => rfl
  have F22 := fun_mk (st := sForget) l22 c22 k22
  have b22 := F22.binds (ps := ["self", "k"]) fun _ _ _ _ _ _ us hl => match us, hl with | [_, _], _ => rfl
  have F23 := fun_mk (st := sRefQ) l23 c23 k23
  have b23 := F23.binds (ps := ["self", "k"]) fun _ _ _ _ _ _ us hl => match us, hl with | [_, _], _ => rfl
  have F24 := fun_mk (st := sRefOrd) l24 c24 k24
  have b24 := F24.binds (ps := ["self", "k", "n"]) fun _ _ _ _ _ _ us hl => match us, hl with | [_, _, _], _ => rfl
  have F25 := fun_mk (st := sTook) l25 c25 k25
  have b25 := F25.binds (ps := ["self", "k"]) fun _ _ _ _ _ _ us hl => match us, hl with | [_, _], _ => rfl
  have F26 := fun_mk (st := sRuns) l26 c26 k26
  have b26 := F26.binds (ps := ["self", "k", "n"]) fun _ _ _ _ _ _ us hl => match us, hl with | [_, _, _], _ => rfl
  have F27 := fun_mk (st := sLetOut) l27 c27 k27
  have b27 := F27.binds (ps := ["self", "k", "n"]) fun _ _ _ _ _ _ us hl => match us, hl with | [_, _, _], _ => rfl
  have F28 := fun_mk (st := sEnd) l28 c28 k28
  have b28 := F28.binds (ps := ["calls", "start"]) fun _ _ _ _ _ _ us hl => match us, hl with | [_, _], _ => rfl
  have F29 := fun_mk (st := sAnswer) l29 c29 k29
  have b29 := F29.binds (ps := ["workshop", "call"]) fun _ _ _ _ _ _ us hl => match us, hl with | [_, _], _ => rfl
  have F30 := fun_mk (st := sAnswers) l30 c30 k30
  refine ⟨PySem.W.fnOf "answers" "answers" (defArgs sAnswers) (defBody sAnswers) (defScope sAnswers) .none kV30 dc30 pm30 an30 cd30 ct30, fun s us hu => match us, hu with | [_], _ => .of_eq rfl, fun base _ _ => ?_⟩
  have c_is_kind : Cal P w K mg base "is_kind" 1 ["k"] spIsKind := ⟨⟨_, _, ok_isKind F0 T, b0, PySem.W.mg_of X G a0, k0⟩⟩
  have c_are_uses : Cal P w K mg base "are_uses" 1 ["uses"] (spAreUses K) := ⟨⟨_, _, ok_areUses F1 T, b1, PySem.W.mg_of X G a1, k1⟩⟩
  have c_is_making : Cal P w K mg base "is_making" 2 ["makes", "out", "uses"] (spIsMaking K) := ⟨⟨_, _, ok_isMaking F2 T c_are_uses, b2, PySem.W.mg_of X G a2, k2⟩⟩
  have n_Making : NCal P w K mg base C "Making" 1 ["self", "kind", "makes", "out", "uses"] (spMInit K C) := ⟨⟨_, _, ok_mInit F3 T, b3, ⟨mkC, a3, i3, kcC⟩, PySem.W.mg_of X G aC⟩⟩
  have m_leaves : MCal P w K mg base C "leaves" 1 ["self", "kind"] (spLeaves C) := ⟨⟨_, _, ok_leaves F4 T, b4, ⟨a4, i4, k4⟩⟩⟩
  have c_used_by : Cal P w K mg base "used_by" 1 ["told", "k"] (spUsedBy C) := ⟨⟨_, _, ok_usedBy F5 T, b5, PySem.W.mg_of X G a5, k5⟩⟩
  have c_used_for : Cal P w K mg base "used_for" 2 ["told", "k"] (spUsedFor C) := ⟨⟨_, _, ok_usedFor F6 T c_used_by, b6, PySem.W.mg_of X G a6, k6⟩⟩
  have c_taking_equation : Cal P w K mg base "taking_equation" 2 ["told", "kinds", "kind"] (spTakeEq C) := ⟨⟨_, _, ok_takeEq F7 T m_leaves, b7, PySem.W.mg_of X G a7, k7⟩⟩
  have c_running_equation : Cal P w K mg base "running_equation" 2 ["told", "kinds", "kind", "ordered"] (spRunEq C) := ⟨⟨_, _, ok_runEq F8 T m_leaves, b8, PySem.W.mg_of X G a8, k8⟩⟩
  have c_taking_equations : Cal P w K mg base "taking_equations" 3 ["told", "kinds"] (spTakeEqs C) := ⟨⟨_, _, ok_takeEqs F9 T c_taking_equation, b9, PySem.W.mg_of X G a9, k9⟩⟩
  have c_running_equations : Cal P w K mg base "running_equations" 3 ["told", "kinds", "k", "n"] (spRunEqs C) := ⟨⟨_, _, ok_runEqs F10 T c_running_equation, b10, PySem.W.mg_of X G a10, k10⟩⟩
  have c_lowest_terms : Cal P w K mg base "lowest_terms" 1 ["above", "below"] spLowest := ⟨⟨_, _, ok_lowest F11 T, b11, PySem.W.mg_of X G a11, k11⟩⟩
  have c_without_unknown : Cal P w K mg base "without_unknown" 1 ["equation", "first", "at"] spWithout := ⟨⟨_, _, ok_without F12 T, b12, PySem.W.mg_of X G a12, k12⟩⟩
  have c_solved : Cal P w K mg base "solved" 2 ["equations"] spSolved := ⟨⟨_, _, ok_solved F13 T c_without_unknown c_lowest_terms, b13, PySem.W.mg_of X G a13, k13⟩⟩
  have c_is_too_great : Cal P w K mg base "is_too_great" 1 ["fraction"] spToo := ⟨⟨_, _, ok_too F14 T, b14, PySem.W.mg_of X G a14, k14⟩⟩
  have c_fraction_answer : Cal P w K mg base "fraction_answer" 2 ["fraction"] spFrAns := ⟨⟨_, _, ok_frAns F15 T c_is_too_great, b15, PySem.W.mg_of X G a15, k15⟩⟩
  have c_runs_answer : Cal P w K mg base "runs_answer" 2 ["kinds", "fractions"] spRunsAns := ⟨⟨_, _, ok_runsAns F16 T c_is_too_great, b16, PySem.W.mg_of X G a16, k16⟩⟩
  have c_let_out_together : Cal P w K mg base "let_out_together" 2 ["told", "kinds", "fractions"] (spLetOutT C) := ⟨⟨_, _, ok_letOutT F17 T c_lowest_terms, b17, PySem.W.mg_of X G a17, k17⟩⟩
  have n_Workshop : NCal P w K mg base W "Workshop" 1 ["self"] (spWInit C W) := ⟨⟨_, _, ok_wInit F18 T, b18, ⟨mkW, a18, i18, kcW⟩, PySem.W.mg_of X G aW⟩⟩
  have m_begin : MCal P w K mg base W "begin" 1 ["self"] (spBegin C W) := ⟨⟨_, _, ok_begin F19 T, b19, ⟨a19, i19, k19⟩⟩⟩
  have m_tell : MCal P w K mg base W "tell" 3 ["self", "k", "makes", "out", "uses"] (spTell C W) := ⟨⟨_, _, ok_tell F20 T c_is_kind c_is_making n_Making, b20, ⟨a20, i20, k20⟩⟩⟩
  have m_refusal_of_kind : MCal P w K mg base W "refusal_of_kind" 2 ["self", "k"] (spRefKind C W) := ⟨⟨_, _, ok_refKind F21 T c_is_kind, b21, ⟨a21, i21, k21⟩⟩⟩
  have m_forget : MCal P w K mg base W "forget" 3 ["self", "k"] (spForget C W) := ⟨⟨_, _, ok_forget F22 T m_refusal_of_kind, b22, ⟨a22, i22, k22⟩⟩⟩
  have m_refusal_of_question : MCal P w K mg base W "refusal_of_question" 3 ["self", "k"] (spRefQ C W) := ⟨⟨_, _, ok_refQ F23 T m_refusal_of_kind c_used_for, b23, ⟨a23, i23, k23⟩⟩⟩
  have m_refusal_of_order : MCal P w K mg base W "refusal_of_order" 4 ["self", "k", "n"] (spRefO C W) := ⟨⟨_, _, ok_refO F24 T m_refusal_of_question, b24, ⟨a24, i24, k24⟩⟩⟩
  have m_took : MCal P w K mg base W "took" 4 ["self", "k"] (spTook C W) := ⟨⟨_, _, ok_took F25 T m_refusal_of_question c_used_for c_solved c_taking_equations c_fraction_answer, b25, ⟨a25, i25, k25⟩⟩⟩
  have m_runs : MCal P w K mg base W "runs" 5 ["self", "k", "n"] (spRuns C W) := ⟨⟨_, _, ok_runs F26 T m_refusal_of_order c_used_for c_solved c_running_equations c_runs_answer, b26, ⟨a26, i26, k26⟩⟩⟩
  have m_let_out : MCal P w K mg base W "let_out" 5 ["self", "k", "n"] (spAll C W) := ⟨⟨_, _, ok_letOut F27 T m_refusal_of_order c_used_for c_solved c_running_equations c_let_out_together c_fraction_answer, b27, ⟨a27, i27, k27⟩⟩⟩
  have c_end_of_call : Cal P w K mg base "end_of_call" 1 ["calls", "start"] (spEnd K) := ⟨⟨_, _, ok_end F28 T, b28, PySem.W.mg_of X G a28, k28⟩⟩
  have c_answer : Cal P w K mg base "answer" 6 ["workshop", "call"] (spAnswer C W) := ⟨⟨_, _, ok_answer F29 T m_begin m_tell m_forget m_took m_runs m_let_out, b29, PySem.W.mg_of X G a29, k29⟩⟩
  exact ok_answers F30 T n_Workshop c_end_of_call c_answer
end Pt
end
open PySem PySem.W PyProof.Rows
set_option maxRecDepth 100000 in
set_option maxHeartbeats 0 in
theorem PySem.Challenge.cw_piecetook_s01_answers_holds : PySem.Challenge.rw_piecetook_s01_answers.Holds := by
  w_on; k_headS; (case hw => exact ⟨[.list [.int 0]], by decide +kernel, by decide +kernel⟩)
  k_fillS
  refine L2.walk_specK (r := PySem.Challenge.rw_piecetook_s01_answers) (k := 7) (CX := L2.CX0) (ps := ["calls"]) (sp := Pt.spAnswers) (by decide +kernel) rfl rfl ⟨rfl, by decide, by decide⟩ (fun w h Y => PySem.W.kIn_of Y) ?F ?S (fun _ _ _ _ z => z)
  case F =>
    intro w mg fa h Y KX G hmg
    refine' Pt.all_mk KX G hmg ?aC ?aW ?a0 ?l0 ?c0 ?k0 ?a1 ?l1 ?c1 ?k1 ?a2 ?l2 ?c2 ?k2 ?a3 ?i3 ?l3 ?c3 ?k3 ?a4 ?i4 ?l4 ?c4 ?k4 ?a5 ?l5 ?c5 ?k5 ?a6 ?l6 ?c6 ?k6 ?a7 ?l7 ?c7 ?k7 ?a8 ?l8 ?c8 ?k8 ?a9 ?l9 ?c9 ?k9 ?a10 ?l10 ?c10 ?k10 ?a11 ?l11 ?c11 ?k11 ?a12 ?l12 ?c12 ?k12 ?a13 ?l13 ?c13 ?k13 ?a14 ?l14 ?c14 ?k14 ?a15 ?l15 ?c15 ?k15 ?a16 ?l16 ?c16 ?k16 ?a17 ?l17 ?c17 ?k17 ?a18 ?i18 ?l18 ?c18 ?k18 ?a19 ?i19 ?l19 ?c19 ?k19 ?a20 ?i20 ?l20 ?c20 ?k20 ?a21 ?i21 ?l21 ?c21 ?k21 ?a22 ?i22 ?l22 ?c22 ?k22 ?a23 ?i23 ?l23 ?c23 ?k23 ?a24 ?i24 ?l24 ?c24 ?k24 ?a25 ?i25 ?l25 ?c25 ?k25 ?a26 ?i26 ?l26 ?c26 ?k26 ?a27 ?i27 ?l27 ?c27 ?k27 ?a28 ?l28 ?c28 ?k28 ?a29 ?l29 ?c29 ?k29 ?a30 ?l30 ?c30 ?k30 ?pgC ?hdC ?poC ?saC ?mkC ?kcC ?pgW ?hdW ?poW ?saW ?mkW ?kcW ?n_kind ?n_makes ?n_out ?n_uses ?n_told ?g_kinds ?g_mostMade ?g_mostOut ?g_mostUsed ?g_mostOrd ?g_great ?g_done ?g_notTold ?g_wrong ?g_cannot ?g_usedNot ?g_tooGreat ?g_begin_ ?g_tell ?g_forget ?g_took ?g_runs ?z_len ?z_max ?z_tuple ?z_range ?z_sorted ?z_zip ?z_any ?aL ?lL ?tL
    (case aC => k_is); (case aW => k_is); (case a0 => k_is); (case l0 => k_is); (case c0 => k_is); (case k0 => k_is)
    (case a1 => k_is); (case l1 => k_is); (case c1 => k_is); (case k1 => k_is); (case a2 => k_is); (case l2 => k_is)
    (case c2 => k_is); (case k2 => k_is); (case a3 => k_is); (case i3 => k_is); (case l3 => k_is); (case c3 => k_is)
    (case k3 => k_is); (case a4 => k_is); (case i4 => k_is); (case l4 => k_is); (case c4 => k_is); (case k4 => k_is)
    (case a5 => k_is); (case l5 => k_is); (case c5 => k_is); (case k5 => k_is); (case a6 => k_is); (case l6 => k_is)
    (case c6 => k_is); (case k6 => k_is); (case a7 => k_is); (case l7 => k_is); (case c7 => k_is); (case k7 => k_is)
    (case a8 => k_is); (case l8 => k_is); (case c8 => k_is); (case k8 => k_is); (case a9 => k_is); (case l9 => k_is)
    (case c9 => k_is); (case k9 => k_is); (case a10 => k_is); (case l10 => k_is); (case c10 => k_is); (case k10 => k_is)
    (case a11 => k_is); (case l11 => k_is); (case c11 => k_is); (case k11 => k_is); (case a12 => k_is); (case l12 => k_is)
    (case c12 => k_is); (case k12 => k_is); (case a13 => k_is); (case l13 => k_is); (case c13 => k_is); (case k13 => k_is)
    (case a14 => k_is); (case l14 => k_is); (case c14 => k_is); (case k14 => k_is); (case a15 => k_is); (case l15 => k_is)
    (case c15 => k_is); (case k15 => k_is); (case a16 => k_is); (case l16 => k_is); (case c16 => k_is); (case k16 => k_is)
    (case a17 => k_is); (case l17 => k_is); (case c17 => k_is); (case k17 => k_is); (case a18 => k_is); (case i18 => k_is)
    (case l18 => k_is); (case c18 => k_is); (case k18 => k_is); (case a19 => k_is); (case i19 => k_is); (case l19 => k_is)
    (case c19 => k_is); (case k19 => k_is); (case a20 => k_is); (case i20 => k_is); (case l20 => k_is); (case c20 => k_is)
    (case k20 => k_is); (case a21 => k_is); (case i21 => k_is); (case l21 => k_is); (case c21 => k_is); (case k21 => k_is)
    (case a22 => k_is); (case i22 => k_is); (case l22 => k_is); (case c22 => k_is); (case k22 => k_is); (case a23 => k_is)
    (case i23 => k_is); (case l23 => k_is); (case c23 => k_is); (case k23 => k_is); (case a24 => k_is); (case i24 => k_is)
    (case l24 => k_is); (case c24 => k_is); (case k24 => k_is); (case a25 => k_is); (case i25 => k_is); (case l25 => k_is)
    (case c25 => k_is); (case k25 => k_is); (case a26 => k_is); (case i26 => k_is); (case l26 => k_is); (case c26 => k_is)
    (case k26 => k_is); (case a27 => k_is); (case i27 => k_is); (case l27 => k_is); (case c27 => k_is); (case k27 => k_is)
    (case a28 => k_is); (case l28 => k_is); (case c28 => k_is); (case k28 => k_is); (case a29 => k_is); (case l29 => k_is)
    (case c29 => k_is); (case k29 => k_is); (case a30 => k_is); (case l30 => k_is); (case c30 => k_is); (case k30 => k_is)
    (case pgC => k_is); (case hdC => k_is); (case poC => k_is); (case saC => k_is); (case mkC => k_is); (case kcC => k_is)
    (case pgW => k_is); (case hdW => k_is); (case poW => k_is); (case saW => k_is); (case mkW => k_is); (case kcW => k_is)
    (case n_kind => k_is); (case n_makes => k_is); (case n_out => k_is); (case n_uses => k_is); (case n_told => k_is); (case g_kinds => k_is)
    (case g_mostMade => k_is); (case g_mostOut => k_is); (case g_mostUsed => k_is); (case g_mostOrd => k_is); (case g_great => k_is); (case g_done => k_is)
    (case g_notTold => k_is); (case g_wrong => k_is); (case g_cannot => k_is); (case g_usedNot => k_is); (case g_tooGreat => k_is); (case g_begin_ => k_is)
    (case g_tell => k_is); (case g_forget => k_is); (case g_took => k_is); (case g_runs => k_is); (case z_len => k_is); (case z_max => k_is)
    (case z_tuple => k_is); (case z_range => k_is); (case z_sorted => k_is); (case z_zip => k_is); (case z_any => k_is); (case aL => k_is)
    (case lL => k_is); (case tL => decide +kernel)
  case S =>
    intro K H xs a hO hwi hask hx
    cases hx with
    | cons h1 h2 =>
      cases h2
      cases h1 with
      | lst hs ha =>
        have e := L2.ints_dw a.1 _ ha
        subst e
        obtain ⟨ys, r, e1, e2, e3, e4⟩ := Pt.answers_read (l := a.1) hask
        refine ⟨_, ys, r, rfl, ?_, e1, e2, fun H' p hp => ?_⟩
        · rw [← e3]
          exact hs
        · rw [← e4] at hp
          exact .lst (L2.SqL.of hp) (L2.dw_ints _)
#print axioms PySem.Challenge.cw_piecetook_s01_answers_holds
