import PyProof.Rows.All
import Wide.All
import OpenK.AllK
import Wide.FinOn
import PyProof.EqAt
import PyProof.EqKinds
import PyProof.TupleCall
import KE.BitLaws
import Open.SpecLaws
import KE.OsHead
import KE.OsGo
import PyProof.InstStoreFacts
import PyProof.ExcInit
import PyProof.ExcArgsOwn
import PyProof.ExcAttrAll.Exception
import PyProof.ExcBaseAll.Exception
import PyProof.FitsBits
import PySem.Challenge.RW_abacusmark_s03_mark
set_option Elab.async false
set_option linter.all false
set_option maxRecDepth 100000
namespace L2
open PySem PySem.Spec PyProof.Rows
abbrev Key := Sum Int Str
def keyIs : Key → Value → Bool
  | .inl k, v => Value.isInt k v
  | .inr x, v => Value.isStrOf x v
def keyH (w : World) : Key → Int
  | .inl k => hashInt k
  | .inr x => hashStr w x
theorem keyIs_shape : ∀ {k : Key} {v : Value}, keyIs k v = true → (∃ i t, k = Sum.inl i ∧ v = Value.int i t) ∨ (∃ x t, k = Sum.inr x ∧ v = Value.str x t)
  | .inl i, v, h => by
    obtain ⟨t, e⟩ := Value.isInt_shape (k := i) (v := v) h
    exact .inl ⟨i, t, rfl, e⟩
  | .inr x, v, h => by
    obtain ⟨t, e⟩ := Value.isStrOf_shape (x := x) (v := v) h
    exact .inr ⟨x, t, rfl, e⟩
theorem keyIs_int (i : Int) (t : Tok) : keyIs (.inl i) (.int i t) = true := by simp [keyIs, Value.isInt]
theorem keyIs_str (x : Str) (t : Tok) : keyIs (.inr x) (.str x t) = true := by simp [keyIs, Value.isStrOf]
theorem key_ll (a b : Int) : decide ((Sum.inl a : Key) = Sum.inl b) = (a == b) := by
  by_cases e : a = b
  · subst e; simp
  · have h : ¬ (Sum.inl a : Key) = Sum.inl b := fun q => e (Sum.inl.inj q)
    rw [decide_eq_false h]
    exact (beq_eq_false_iff_ne.mpr e).symm
theorem key_rr (a b : Str) : decide ((Sum.inr a : Key) = Sum.inr b) = decide (a = b) := by
  by_cases e : a = b
  · subst e; simp
  · have h : ¬ (Sum.inr a : Key) = Sum.inr b := fun q => e (Sum.inr.inj q)
    rw [decide_eq_false h, decide_eq_false e]
theorem key_lr (a : Int) (b : Str) : decide ((Sum.inl a : Key) = Sum.inr b) = false := decide_eq_false (fun q => nomatch q)
theorem key_rl (a : Str) (b : Int) : decide ((Sum.inr a : Key) = Sum.inl b) = false := decide_eq_false (fun q => nomatch q)
def mixKind (prog : Program) (w : World) : PySem.KeyKind prog w Key where
  is := keyIs
  hash := keyH w
  inj := fun v a b ha hb => by
    rcases keyIs_shape ha with ⟨i, t, rfl, rfl⟩ | ⟨x, t, rfl, rfl⟩
    · rcases keyIs_shape hb with ⟨j, u, rfl, e⟩ | ⟨y, u, rfl, e⟩
      · injection e with e1 _; rw [e1]
      · exact nomatch e
    · rcases keyIs_shape hb with ⟨j, u, rfl, e⟩ | ⟨y, u, rfl, e⟩
      · exact nomatch e
      · injection e with e1 _; rw [e1]
  byValue := fun k v h => by
    rcases keyIs_shape h with ⟨i, t, rfl, rfl⟩ | ⟨x, t, rfl, rfl⟩ <;> rfl
  pyHash := fun hv h => by
    rcases keyIs_shape hv with ⟨i, t, rfl, rfl⟩ | ⟨x, t, rfl, rfl⟩
    · exact wpAny_pyHash_int h
    · exact wpAny_pyHash_str h
  eqBool := fun hu hv h => by
    rcases keyIs_shape hu with ⟨i, t, rfl, rfl⟩ | ⟨x, t, rfl, rfl⟩
    · rcases keyIs_shape hv with ⟨j, u, rfl, rfl⟩ | ⟨y, u, rfl, rfl⟩
      · rw [key_ll] at h; exact wpAny_eqBool_int h
      · rw [key_lr] at h; exact SeqAt.EqAt.int_str i t y u _ _ _ _ h
    · rcases keyIs_shape hv with ⟨j, u, rfl, rfl⟩ | ⟨y, u, rfl, rfl⟩
      · rw [key_rl] at h; exact SeqAt.EqAt.str_int x t j u _ _ _ _ h
      · rw [key_rr] at h; exact wpAny_eqBool_str h
  «strs» := fun k x t v h => by
    rcases keyIs_shape h with ⟨i, u, rfl, e⟩ | ⟨y, u, rfl, e⟩
    · exact nomatch e
    · injection e with e1 _
      subst e1
      cases v <;> rfl
theorem mixKind_int (prog : Program) (w : World) (i : Int) (t : Tok) : (mixKind prog w).is (.inl i) (.int i t) = true := keyIs_int i t
theorem mixKind_str (prog : Program) (w : World) (x : Str) (t : Tok) : (mixKind prog w).is (.inr x) (.str x t) = true := keyIs_str x t
end L2
namespace L2
open PySem PySem.Spec PyProof.Rows
inductive V where
  | non | bl (b : Bool) | int (i : Int) | str (x : Str) | byt (b : Array UInt8) | flt (b : UInt64) | ref (a : Addr) | ty (n : String)
  deriving DecidableEq
def RelV : V → Value → Prop
  | .non, u => u = Value.none
  | .bl b, u => u = Value.bool b
  | .int i, u => ∃ t, u = Value.int i t
  | .str x, u => ∃ t, u = Value.str x t
  | .byt b, u => ∃ t, u = Value.bytes b t
  | .flt b, u => ∃ t, u = Value.float b t
  | .ref a, u => u = Value.ref a
  | .ty n, u => u = Value.type n
abbrev Vals : List V → List Value → Prop := Paired RelV
theorem Vals.length {xs : List V} {us : List Value} (r : Vals xs us) : xs.length = us.length := Paired.length r
theorem Vals.get : ∀ {xs : List V} {us : List Value} {i : Nat} {x : V}, Vals xs us → xs[i]? = some x → ∃ u, us[i]? = some u ∧ RelV x u
  | _, _, _, _, .nil, e => by simp at e
  | _, _, 0, _, .cons r _, e => by simp at e; subst e; exact ⟨_, rfl, r⟩
  | _, _, i + 1, x, .cons _ t, e => by
    obtain ⟨u, h1, h2⟩ := Vals.get (i := i) (x := x) t (by simpa using e)
    exact ⟨u, by simpa using h1, h2⟩
theorem Vals.append : ∀ {xs ys : List V} {us ws : List Value}, Vals xs us → Vals ys ws → Vals (xs ++ ys) (us ++ ws)
  | _, _, _, _, .nil, s => s
  | _, _, _, _, .cons r t, s => .cons r (Vals.append t s)
def RelO : Option V → Option Value → Prop
  | some v, some u => RelV v u
  | none, none => True
  | _, _ => False
def KV {κ : Type} : List (κ × V) → List (κ × Value) → Prop := Paired fun (p : κ × V) (q : κ × Value) => p.1 = q.1 ∧ RelV p.2 q.2
def kV : Key → V
  | .inl i => .int i
  | .inr x => .str x
inductive HO where
  /-- a list -/
  | lst (xs : List V)
  /-- a tuple (never changes) -/
  | tup (xs : List V)
  /-- a dict whose keys are ints and texts; one whose keys are tuples of ints and texts (the empty one is both) -/
  | dK (kvs : List (Key × V)) | dT (kvs : List (List Key × V))
  /-- a set of ints: its members, its size -/
  | set (S : Int → Bool) (n : Nat)
  /-- an instance of the class at C, its dict at dx, its attributes -/
  | ins (C dx : Addr) (fs : List (Str × V))
  /-- the dict of the instance at x -/
  | own (x : Addr)
  /-- the dict of an exception -/
  | xd (fs : List (Str × V))
  /-- a bound method, f of x -/
  | met (f x : Addr)
  /-- a range object lo, lo + 1, .. below hi -/
  | rng (lo hi : Int)
  /-- a thing that is known to the object (the script; a dict while a loop walks it): read, never written while it is so -/
  | frz (o : Obj) (u : HO)
  /-- a code object's table -/
  | tbl (ps : Array Value)
  /-- any other thing, by what is true of its one object (a def of one's own: SetO a S n := HO.ext fun h => ..) -/
  | ext (φ : Heap → Prop)
abbrev Hp := Addr → Option HO
def upd (H : Hp) (a : Addr) (o : HO) : Hp := fun b => if b = a then some o else H b
theorem upd_same {H : Hp} {a : Addr} {o : HO} : upd H a o a = some o := by unfold upd; rw [if_pos rfl]
theorem upd_ne {H : Hp} {a b : Addr} {o : HO} (h : b ≠ a) : upd H a o b = H b := by unfold upd; rw [if_neg h]
theorem ne_of {H : Hp} {a b : Addr} {o u : HO} (h : H a = some o) (h' : H b = some u) (d : o ≠ u) : a ≠ b := by
  intro e; subst e; rw [h] at h'; exact d (Option.some.inj h')
theorem ne_of_none {H : Hp} {a b : Addr} {o : HO} (h : H a = some o) (h' : H b = none) : a ≠ b := by
  intro e; subst e; rw [h] at h'; cases h'
section
variable (P : Program) (w : World)
def ObjOk (H : Hp) (h : Heap) (a : Addr) : HO → Prop
  | .lst xs => xs.length ≤ sizeLine ∧ ∃ (its : List Value) (n : Nat), Vals xs its ∧ h.get? a = some { cls := .type "list", data := .seq its.toArray n }
  | .tup xs => xs.length ≤ sizeLine ∧ ∃ its : List Value, Vals xs its ∧ IsTup h a its.toArray
  | .dK kvs => kvs.length ≤ sizeLine ∧ (a == sysModules) = false ∧ ∃ vs, KV kvs vs ∧ h.DictOf (mixKind P w) a vs
  | .dT kvs => kvs.length ≤ sizeLine ∧ (a == sysModules) = false ∧ ∃ xs : List (List Key × Addr × Value),
      Paired (fun (p : List Key × V) (q : List Key × Addr × Value) => p.1 = q.1 ∧ H q.2.1 = some (.tup (p.1.map kV)) ∧ RelV p.2 q.2.2) kvs xs ∧
      ∃ o es ep, h.get? a = some o ∧ o.ExactDict ∧ o.data = .dict es ep ∧ es.toList = xs.map (entryOfKey (tupleKind (mixKind P w))) ∧ (xs.map (·.1)).Nodup
  | .set S n => h.SetOf (intKind P w) a S n
  | .ins C dx fs => H dx = some (.own a) ∧ fs.length ≤ 1000 ∧ dx ≠ a ∧ h.get? a = some (PySem.W.instObj C dx) ∧
      ∃ mA, h.Ns1 dx mA ∧ (∀ f, RelO (fs.lookup f) (mA f)) ∧ PySem.Within mA (fs.map (·.1))
  | .own _ => ∃ o, h.get? a = some o
  | .xd fs => ∃ mA, h.Ns1 a mA ∧ ∀ f, RelO (fs.lookup f) (mA f)
  | .rng lo hi => ∃ t u v, h.get? a = some { cls := .type "range", data := .fields #[.int lo t, .int hi u, .int 1 v] }
  | .frz o u => h.get? a = some o ∧ ObjOk H h a u
  | .tbl ps => h.get? a = some { cls := .none, data := .fields ps }
  | .met f x => h.get? a = some (PySem.W.methodObj (.ref f) (.ref x))
  | .ext φ => φ h ∧ (∃ o, h.get? a = some o) ∧ ∀ h1 h2 : Heap, φ h1 → (∀ o, h1.get? a = some o → h2.get? a = some o) → φ h2
def HOk (H : Hp) (h : Heap) : Prop := ∀ a o, H a = some o → ObjOk P w H h a o
end
section
variable {P : Program} {w : World} {H H' : Hp} {h h' : Heap} {a : Addr} {o : HO}
theorem ObjOk.lt (x : ObjOk P w H h a o) : a < h.objs.size := by
  cases o with
  | lst xs => obtain ⟨_, _, _, _, e⟩ := x; exact Heap.lt_size e
  | tup xs => obtain ⟨_, _, _, p⟩ := x; exact p.lt
  | dK kvs => obtain ⟨_, _, _, _, o, _, _, e, _⟩ := x; exact Heap.lt_size e
  | dT kvs => obtain ⟨_, _, _, _, o, _, _, e, _⟩ := x; exact Heap.lt_size e
  | set S n => obtain ⟨o, _, _, _, e, _⟩ := x; exact Heap.lt_size e
  | ins C dx fs => obtain ⟨_, _, _, e, _⟩ := x; exact Heap.lt_size e
  | own y => obtain ⟨_, e⟩ := x; exact Heap.lt_size e
  | xd fs => obtain ⟨_, ⟨_, _, _, e, _⟩, _⟩ := x; exact Heap.lt_size e
  | rng lo hi => obtain ⟨_, _, _, e⟩ := x; exact Heap.lt_size e
  | frz ob u => obtain ⟨e, _⟩ := x; exact Heap.lt_size e
  | tbl ps => exact Heap.lt_size (show h.get? a = some _ from x)
  | met f y => exact Heap.lt_size (show h.get? a = some _ from x)
  | ext φ => obtain ⟨_, ⟨_, e⟩, _⟩ := x; exact Heap.lt_size e
theorem Paired.mapP {α β : Type} {F G : α → β → Prop} : ∀ {l₁ : List α} {l₂ : List β}, Paired F l₁ l₂ → (∀ a b, F a b → G a b) → Paired G l₁ l₂
  | _, _, .nil, _ => .nil
  | _, _, .cons r t, f => .cons (f _ _ r) (Paired.mapP t f)
theorem ObjOk.stay (x : ObjOk P w H h a o) (k : ∀ b u, (b = a ∨ H b = some (.own a)) → h.get? b = some u → h'.get? b = some u)
    (ho : ∀ b, H b = some (.own a) → H' b = some (.own a)) (ht : ∀ b xs, H b = some (.tup xs) → H' b = some (.tup xs)) : ObjOk P w H' h' a o := by
  induction o with
  | lst xs => obtain ⟨z, its, n, r, e⟩ := x; exact ⟨z, its, n, r, k _ _ (.inl rfl) e⟩
  | tup xs => obtain ⟨z, its, r, ob, e, c⟩ := x; exact ⟨z, its, r, ob, k _ _ (.inl rfl) e, c⟩
  | dK kvs => obtain ⟨z, y, vs, r, ob, es, ep, e, c⟩ := x; exact ⟨z, y, vs, r, ob, es, ep, k _ _ (.inl rfl) e, c⟩
  | dT kvs =>
    obtain ⟨z, y, xs, r, ob, es, ep, e, c⟩ := x
    exact ⟨z, y, xs, Paired.mapP r fun p q z => ⟨z.1, ht _ _ z.2.1, z.2.2⟩, ob, es, ep, k _ _ (.inl rfl) e, c⟩
  | set S n => obtain ⟨ob, es, ep, t, e, c⟩ := x; exact ⟨ob, es, ep, t, k _ _ (.inl rfl) e, c⟩
  | ins C dx fs =>
    obtain ⟨d, z, ne, e, mA, ⟨od, es, ep, e2, c⟩, r⟩ := x
    exact ⟨ho _ d, z, ne, k _ _ (.inl rfl) e, mA, ⟨od, es, ep, k _ _ (.inr d) e2, c⟩, r⟩
  | own y => obtain ⟨ob, e⟩ := x; exact ⟨ob, k _ _ (.inl rfl) e⟩
  | xd fs => obtain ⟨mA, ⟨od, es, ep, e, c⟩, r⟩ := x; exact ⟨mA, ⟨od, es, ep, k _ _ (.inl rfl) e, c⟩, r⟩
  | rng lo hi => obtain ⟨t, u, v, e⟩ := x; exact ⟨t, u, v, k _ _ (.inl rfl) e⟩
  | frz ob u ih => obtain ⟨e, q⟩ := x; exact ⟨k _ _ (.inl rfl) e, ih q⟩
  | tbl ps =>
    have e : h.get? a = some { cls := .none, data := .fields ps } := x
    show h'.get? a = some { cls := .none, data := .fields ps }
    exact k a _ (.inl rfl) e
  | met f y =>
    have e : h.get? a = some (PySem.W.methodObj (.ref f) (.ref y)) := x
    show h'.get? a = some (PySem.W.methodObj (.ref f) (.ref y))
    exact k a _ (.inl rfl) e
  | ext φ => obtain ⟨p, ⟨o, e⟩, st⟩ := x; exact ⟨st _ _ p fun o q => k _ _ (.inl rfl) q, ⟨o, k _ _ (.inl rfl) e⟩, st⟩
theorem HOk.lt (x : HOk P w H h) (e : H a = some o) : a < h.objs.size := (x a o e).lt
theorem HOk.fresh (x : HOk P w H h) (e : h.objs.size ≤ a) : H a = none := by
  cases q : H a with
  | none => rfl
  | some u => exact absurd (Nat.lt_of_lt_of_le (x.lt q) e) (Nat.lt_irrefl _)
theorem HOk.kept (x : HOk P w H h) (k : ∀ b u, h.get? b = some u → h'.get? b = some u) : HOk P w H h' := fun a o e =>
  (x a o e).stay (fun b u _ q => k b u q) (fun _ q => q) fun _ _ q => q
theorem HOk.laid (x : HOk P w H h) (k : ∀ b u, h.get? b = some u → h'.get? b = some u) (hp : h.objs.size ≤ a) (new : ObjOk P w (upd H a o) h' a o) : HOk P w (upd H a o) h' := fun b u e => by
  have hn := x.fresh hp
  by_cases hb : b = a
  · subst hb; rw [upd_same] at e; cases e; exact new
  · rw [upd_ne hb] at e
    exact (x b u e).stay (fun c v _ q => k c v q) (fun c q => by rw [upd_ne (ne_of_none q hn)]; exact q) fun c xs q => by rw [upd_ne (ne_of_none q hn)]; exact q
end
def Rd (H : Hp) (a : Addr) (u : HO) : Prop := H a = some u ∨ ∃ o, H a = some (.frz o u)
theorem Rd.ok {P : Program} {w : World} {H : Hp} {h : Heap} {a : Addr} {u : HO} (r : Rd H a u) (x : HOk P w H h) : ObjOk P w H h a u := by
  rcases r with r | ⟨o, r⟩
  · exact x a u r
  · obtain ⟨_, q⟩ := x a _ r
    exact q
def Mut : Option HO → Prop
  | some (.lst _) => True
  | some (.dK _) => True
  | some (.dT _) => True
  | some (.set _ _) => True
  | some (.ins _ _ _) => True
  | some (.ext _) => True
  | _ => False
section
variable {P : Program} {w : World} {H : Hp} {h h' : Heap} {x e : Addr} {o' : HO}
theorem HOk.write (ok : HOk P w H h) (mu : Mut (H x)) (he : e = x ∨ H e = some (.own x)) (k : ∀ b u, b ≠ e → h.get? b = some u → h'.get? b = some u) (heo : ∃ u, h'.get? e = some u)
    (new : ObjOk P w (upd H x o') h' x o') : HOk P w (upd H x o') h' := fun b u q => by
  have nown : ∀ c y, H c = some (.own y) → c ≠ x := fun c y r z => by subst z; rw [r] at mu; exact mu
  have ntup : ∀ c xs, H c = some (.tup xs) → c ≠ x := fun c xs r z => by subst z; rw [r] at mu; exact mu
  by_cases hb : b = x
  · subst hb; rw [upd_same] at q; cases q; exact new
  · rw [upd_ne hb] at q
    by_cases hbe : b = e
    · have q' : H b = some (.own x) := by
        rcases he with z | z
        · exact absurd (hbe.trans z) hb
        · rw [hbe]; exact z
      rw [q] at q'; cases q'
      obtain ⟨v, hv⟩ := heo
      exact ⟨v, by rw [hbe]; exact hv⟩
    · refine (ok b u q).stay (fun c v hc r => k c v ?_ r) (fun c r => by rw [upd_ne (nown c b r)]; exact r) fun c xs r => by rw [upd_ne (ntup c xs r)]; exact r
      rcases hc with rfl | hc
      · exact hbe
      · rintro rfl
        rcases he with z | z
        · exact nown c b hc z
        · rw [hc] at z; cases z; exact hb rfl
end
structure Un (fs ex : List Addr) (H H' : Hp) (h h' : Heap) : Prop where
  keep : ∀ b o, h.get? b = some o → H b = none → b ∉ fs → b ∉ ex → h'.get? b = some o
  slot : ∀ b o, h.get? b = some o → H b = none → b ∈ fs → b ∉ ex → ∃ sl, h'.get? b = some { o with slots := sl }
  free : ∀ b o, h.get? b = some o → H b = none → b ∉ ex → H' b = none
  there : ∀ b o, h.get? b = some o → b ∉ ex → ∃ o', h'.get? b = some o'
  tups : ∀ b xs, H b = some (.tup xs) → H' b = some (.tup xs)
  frzs : ∀ b o u, H b = some (.frz o u) → H' b = some (.frz o u)
  tbls : ∀ b ps, H b = some (.tbl ps) → ∃ more, H' b = some (.tbl (ps ++ more))
section
variable {fs fs' ex ex' : List Addr} {H H1 H2 : Hp} {h h1 h2 h' : Heap} {a x e : Addr} {o : HO}
theorem Un.any (u : Un fs ex H H1 h h1) {b : Addr} {ob : Obj} (q : h.get? b = some ob) (n : H b = none) (hx : b ∉ ex) : ∃ sl, h1.get? b = some { ob with slots := sl } := by
  by_cases hb : b ∈ fs
  · exact u.slot b ob q n hb hx
  · exact ⟨ob.slots, u.keep b ob q n hb hx⟩
theorem Un.kept (k : ∀ b u, h.get? b = some u → h'.get? b = some u) : Un fs ex H H h h' :=
  ⟨fun b ob q _ _ _ => k b ob q, fun b ob q _ _ _ => ⟨ob.slots, k b ob q⟩, fun _ _ _ n _ => n, fun b ob q _ => ⟨ob, k b ob q⟩, fun _ _ q => q, fun _ _ _ q => q, fun _ ps q => ⟨#[], by rw [q]; simp⟩⟩
theorem Un.refl : Un fs ex H H h h := Un.kept fun _ _ q => q
theorem Un.laid (k : ∀ b u, h.get? b = some u → h'.get? b = some u) (hp : h.objs.size ≤ a) (hn : H a = none) : Un fs ex H (upd H a o) h h' where
  keep := fun b u q _ _ _ => k b u q
  slot := fun b u q _ _ _ => ⟨u.slots, k b u q⟩
  free := fun b u q n _ => by rw [upd_ne (Nat.ne_of_lt (Nat.lt_of_lt_of_le (Heap.lt_size q) hp))]; exact n
  there := fun b u q _ => ⟨u, k b u q⟩
  tups := fun b xs q => by rw [upd_ne (ne_of_none q hn)]; exact q
  frzs := fun b u xs q => by rw [upd_ne (ne_of_none q hn)]; exact q
  tbls := fun b ps q => ⟨#[], by rw [upd_ne (ne_of_none q hn), q]; simp⟩
theorem Un.write (mu : Mut (H x)) (he : e = x ∨ H e = some (.own x)) (k : ∀ b u, b ≠ e → h.get? b = some u → h'.get? b = some u) (heo : ∃ u, h'.get? e = some u) : Un fs ex H (upd H x o) h h' := by
  have hx : ∀ b, H b = none → b ≠ x := fun b n z => by subst z; rw [n] at mu; exact mu
  have hb : ∀ b, H b = none → b ≠ e := fun b n z => by
    subst z
    rcases he with r | r
    · exact hx b n r
    · rw [n] at r; cases r
  have hm : ∀ b u, H b = some u → ¬ Mut (some u) → b ≠ x := fun b u q nm z => by subst z; rw [q] at mu; exact nm mu
  refine ⟨fun b u q n _ _ => k b u (hb b n) q, fun b u q n _ _ => ⟨u.slots, k b u (hb b n) q⟩, fun b u q n _ => by rw [upd_ne (hx b n)]; exact n, fun b u q _ => ?_,
    fun b xs q => by rw [upd_ne (hm b _ q fun z => z)]; exact q, fun b u xs q => by rw [upd_ne (hm b _ q fun z => z)]; exact q, fun b ps q => ⟨#[], by rw [upd_ne (hm b _ q fun z => z), q]; simp⟩⟩
  by_cases hbe : b = e
  · subst hbe; exact heo
  · exact ⟨u, k b u hbe q⟩
end
def trk (h : Heap) (H : Hp) : List Addr := (List.range h.objs.size).filter fun a => (H a).isSome
def hidT (h : Heap) (H : Hp) : Heap := PySem.W.hideAll h (trk h H)
theorem hidT_size (h : Heap) (H : Hp) : (hidT h H).objs.size = h.objs.size := PySem.W.hideAll_size _ _
theorem hidT_get {h : Heap} {H : Hp} {b : Addr} {o : Obj} (e : h.get? b = some o) (n : H b = none) : (hidT h H).get? b = some o :=
  PySem.W.hideAll_get _ e fun hm => by
    have q : (H b).isSome = true := (List.mem_filter.mp hm).2
    rw [n] at q; simp at q
theorem of_hidT {h : Heap} {H : Hp} {b : Addr} {o : Obj} (e : (hidT h H).get? b = some o) : h.get? b = some o ∧ H b = none := by
  have e' : h.get? b = some o := PySem.W.of_hideAll (trk h H) e
  refine ⟨e', ?_⟩
  cases q : H b with
  | none => rfl
  | some x =>
    have hm : b ∈ trk h H := List.mem_filter.mpr ⟨List.mem_range.mpr (Heap.lt_size e'), by simp [q]⟩
    have z : (hidT h H).get? b = none := PySem.W.hideAll_none (trk h H) hm
    rw [z] at e; cases e
end L2
namespace L2
open PySem PySem.Spec PyProof.Rows
structure Mod (K : PySem.W.Frag) (mg : Str → Option Value) (base : Heap) : Prop where
  kin : K.In base
  glob : base.Ns mainGlobals mg
  blt : ∃ mb, base.Ns builtinsNs mb ∧ ∀ x : Str, x ≠ "__name__" → mb x = bootBuiltins x
  nolimit : base.NoLimit
structure Cx where
  prog : Program
  w : World
  K : PySem.W.Frag
  mg : Str → Option Value
  base : Heap
  A : Around
  N : List Str
  s_0 : Shared
  H_0 : Hp
  env : Env
  outer : List Env
  stack : List Env
  ex : List Addr
  fn : Str → Bool
  calm : Bool
  pn : List (Addr × Obj)
  xe : Value → Shared → Prop
def frs (l : List Env) : List Addr := l.filterMap (·.frame)
abbrev Cx.fs (X : Cx) : List Addr := frs X.outer
def Vis (sc : Scope) (x : Str) : Prop := sc.names.lookup x = some .local ∨ sc.names.lookup x = some .cell ∨ sc.names.lookup x = some .free
def Loc (sc : Scope) (x : Str) : Prop := sc.names.lookup x = some .local ∨ sc.names.lookup x = some .cell
def Look (env : Env) (h : Heap) (m : Str → Option Value) (x : Str) (u : Value) : Prop :=
  (env.kindOf x = some .local ∧ m x = some u) ∨ ((env.kindOf x = some .cell ∨ env.kindOf x = some .free) ∧ ∃ c, env.cells.lookup x = some c ∧ h.IsCell c (some u))
structure Cx.Ok (X : Cx) : Prop where
  mod : Mod X.K X.mg X.base
  kind : X.env.scope.kind = .function
  glob : X.env.globals = mainGlobals
  blt : X.env.builtins = builtinsNs
  above : X.s_0.heap.objs.size ≤ X.env.locals
  inj : ∀ x y c, X.env.cells.lookup x = some c → X.env.cells.lookup y = some c → x = y
  has : ∀ x, (X.env.kindOf x = some .cell ∨ X.env.kindOf x = some .free) → ∃ c, X.env.cells.lookup x = some c
  cab : ∀ x c, X.fn x = true → X.env.cells.lookup x = some c → X.s_0.heap.objs.size ≤ c
  hd : X.calm = true → X.A.handled = none
  frames : X.A.frames = some X.stack
  stk : X.stack = X.outer ∨ (X.stack = X.env :: X.outer ∧ X.env.frame = some X.env.locals)
  exf : ∀ b ∈ X.ex, b ≠ X.env.locals ∧ ∀ x c, X.env.cells.lookup x = some c → c ≠ b
  bs : ∀ b o, X.base.get? b = some o → X.s_0.heap.get? b = some o ∧ X.H_0 b = none
  bsz : X.base.objs.size ≤ X.s_0.heap.objs.size
  noex : ∀ b o, X.base.get? b = some o → b ∉ X.ex
  exfs : ∀ b ∈ X.ex, b ∉ X.fs
  funs : X.s_0.heap.FunFrames X.base X.outer
  frf : ∀ b ∈ X.fs, X.H_0 b = none
structure Inv (X : Cx) (pins : List (Addr × Obj)) (σ : List (Option V)) (H : Hp) (s : Shared) : Prop where
  ok : X.Ok
  os : s.os = X.s_0.os
  bare : AllBare s.gens
  base : Un X.fs X.ex X.H_0 H X.s_0.heap s.heap
  loc : ∃ m, s.heap.Ns X.env.locals m ∧ ∀ (i : Nat) (x : Str) (v : V), X.N[i]? = some x → σ[i]? = some (some v) → Vis X.env.scope x → ∃ u, RelV v u ∧ Look X.env s.heap m x u
  cell : ∀ x c, X.env.cells.lookup x = some c → ∃ v, s.heap.IsCell c v
  free : H X.env.locals = none
  freeC : ∀ x c, X.env.cells.lookup x = some c → H c = none
  pin : ∀ p ∈ X.pn ++ pins, s.heap.get? p.1 = some p.2 ∧ H p.1 = none ∧ p.1 ≠ X.env.locals ∧ p.1 ∉ X.fs ∧ ∀ v, p.2.data ≠ .cell v
  hok : HOk X.prog X.w H s.heap
  len : σ.length = X.N.length
section
variable {X : Cx} {pins : List (Addr × Obj)} {σ : List (Option V)} {H H' : Hp} {s : Shared} {h' : Heap}
theorem Cx.Ok.nofr (ok : X.Ok) {b : Addr} {o : Obj} (e : X.base.get? b = some o) : b ∉ X.fs := fun hb => by
  have := (ok.funs.mem hb).1
  rw [e] at this; cases this
theorem Inv.bs (I : Inv X pins σ H s) : ∀ b o, X.base.get? b = some o → s.heap.get? b = some o ∧ H b = none := fun b o e =>
  ⟨I.base.keep b o (I.ok.bs b o e).1 (I.ok.bs b o e).2 (I.ok.nofr e) (I.ok.noex b o e), I.base.free b o (I.ok.bs b o e).1 (I.ok.bs b o e).2 (I.ok.noex b o e)⟩
theorem Inv.bk (I : Inv X pins σ H s) : ∀ b o, X.base.get? b = some o → s.heap.get? b = some o := fun b o e => (I.bs b o e).1
theorem Inv.mod (I : Inv X pins σ H s) : Mod X.K X.mg X.base := I.ok.mod
theorem Inv.kIn (I : Inv X pins σ H s) : X.K.In s.heap := I.ok.mod.kin.keeps I.bk
theorem Inv.lt (I : Inv X pins σ H s) : X.env.locals < s.heap.objs.size := let ⟨_, hn, _⟩ := I.loc; hn.lt
theorem Inv.sz (I : Inv X pins σ H s) : X.s_0.heap.objs.size ≤ s.heap.objs.size := Nat.le_trans I.ok.above (Nat.le_of_lt I.lt)
theorem Inv.nofs (I : Inv X pins σ H s) {a : Addr} (h : s.heap.objs.size ≤ a) : a ∉ X.fs := fun hb => by
  obtain ⟨_, o, ho, _⟩ := I.ok.funs.mem hb
  exact absurd (Nat.lt_of_lt_of_le (Heap.lt_size ho) (Nat.le_trans I.sz h)) (Nat.lt_irrefl _)
theorem Inv.cne (I : Inv X pins σ H s) : ∀ x c, X.env.cells.lookup x = some c → c ≠ X.env.locals := fun x c e z => by
  obtain ⟨v, o, ho, hd⟩ := I.cell x c e
  obtain ⟨m, ⟨o', es, ep, ho', hd', _⟩, _⟩ := I.loc
  rw [z, ho'] at ho; cases ho; rw [hd'] at hd; cases hd
theorem Inv.funs (I : Inv X pins σ H s) : s.heap.FunFrames X.base X.outer := by
  have all : ∀ (l : List Env), (∀ b ∈ frs l, b ∈ X.fs) → X.s_0.heap.FunFrames X.base l → s.heap.FunFrames X.base l := by
    intro l
    induction l with
    | nil => intro _ _; trivial
    | cons env r ih =>
      intro hs hl
      obtain ⟨hk, ⟨L, o, hf, hn, ho, hd⟩, hr⟩ := hl
      have hL : L ∈ X.fs := hs L (by unfold frs; rw [List.filterMap_cons, hf]; exact List.mem_cons_self)
      obtain ⟨sl, e⟩ := I.base.slot L o ho (I.ok.frf L hL) hL fun z => I.ok.exfs L z hL
      exact ⟨hk, ⟨L, _, hf, hn, e, hd⟩, ih (fun b hb => hs b (by unfold frs; rw [List.filterMap_cons, hf]; exact List.mem_cons_of_mem _ hb)) hr⟩
  exact all X.outer (fun _ hb => hb) I.ok.funs
theorem Inv.stack (I : Inv X pins σ H s) : s.heap.FunFrames X.base X.stack := by
  rcases I.ok.stk with e | ⟨e, hf⟩
  · rw [e]; exact I.funs
  · rw [e]
    obtain ⟨m, hn, _⟩ := I.loc
    refine .cons (by rw [I.ok.kind]; decide) hf hn ?_ I.funs
    exact Heap.get?_none_of_le (Nat.le_trans I.ok.bsz I.ok.above)
theorem Inv.stkSub (I : Inv X pins σ H s) : ∀ b ∈ frs X.stack, b ∈ X.env.locals :: X.fs := fun b hb => by
  rcases I.ok.stk with e | ⟨e, hf⟩
  · rw [e] at hb; exact List.mem_cons_of_mem _ hb
  · rw [e] at hb
    unfold frs at hb
    rw [List.filterMap_cons, hf] at hb
    exact hb
theorem Inv.stkFree (I : Inv X pins σ H s) : ∀ b ∈ frs X.stack, H b = none := fun b hb => by
  rcases List.mem_cons.mp (I.stkSub b hb) with e | hb
  · rw [e]; exact I.free
  · obtain ⟨_, o, ho, _⟩ := I.ok.funs.mem hb
    exact I.base.free b o ho (I.ok.frf b hb) fun z => I.ok.exfs b z hb
theorem Inv.step {g' : Array GenState} {t' : Nat} {d' : Drawn} {ch : List Addr} (I : Inv X pins σ H s)
    (hch : ∀ b ∈ ch, (b ∈ X.ex ∨ X.s_0.heap.objs.size ≤ b) ∧ b ≠ X.env.locals ∧ (∀ x c, X.env.cells.lookup x = some c → c ≠ b) ∧ ∀ p ∈ X.pn ++ pins, p.1 ≠ b)
    (keep : ∀ b o, b ≠ X.env.locals → b ∉ X.fs → b ∉ ch → s.heap.get? b = some o → H b = none → h'.get? b = some o)
    (slot : ∀ b o, b ≠ X.env.locals → b ∈ X.fs → b ∉ ch → s.heap.get? b = some o → H b = none → ∃ sl, h'.get? b = some { o with slots := sl }) (free : ∀ b o, b ∉ ch → s.heap.get? b = some o → H b = none → H' b = none)
    (there : ∀ b o, b ∉ ch → s.heap.get? b = some o → ∃ o', h'.get? b = some o')
    (tups : ∀ b xs, H b = some (.tup xs) → H' b = some (.tup xs)) (frzs : ∀ b o u, H b = some (.frz o u) → H' b = some (.frz o u)) (tbls : ∀ b ps, H b = some (.tbl ps) → ∃ more, H' b = some (.tbl (ps ++ more)))
    (ns : ∀ m, s.heap.Ns X.env.locals m → h'.Ns X.env.locals m) (hok : HOk X.prog X.w H' h') (hg : AllBare g') :
    Inv X pins σ H' { s with heap := h', gens := g', drawn := d', toks := t' } := by
  have neL : ∀ b o, X.s_0.heap.get? b = some o → b ≠ X.env.locals := fun b o e => Nat.ne_of_lt (Nat.lt_of_lt_of_le (Heap.lt_size e) I.ok.above)
  have neC : ∀ b o, X.s_0.heap.get? b = some o → b ∉ X.ex → b ∉ ch := fun b o e hx hb => by
    rcases (hch b hb).1 with z | z
    · exact hx z
    · exact absurd (Nat.lt_of_lt_of_le (Heap.lt_size e) z) (Nat.lt_irrefl _)
  have cellK : ∀ x c, X.env.cells.lookup x = some c → ∀ v, s.heap.IsCell c v → h'.IsCell c v := fun x c e v ⟨o, ho, hd⟩ => by
    have nch : c ∉ ch := fun z => (hch c z).2.2.1 x c e rfl
    by_cases hc : c ∈ X.fs
    · obtain ⟨sl, q⟩ := slot c o (I.cne x c e) hc nch ho (I.freeC x c e)
      exact ⟨_, q, hd⟩
    · exact ⟨o, keep c o (I.cne x c e) hc nch ho (I.freeC x c e), hd⟩
  refine ⟨I.ok, I.os, hg, ⟨fun b o e n hb hx => ?_, fun b o e n hb hx => ?_, fun b o e n hx => ?_, fun b o e hx => ?_, fun b xs e => tups b xs (I.base.tups b xs e), fun b o xs e => frzs b o xs (I.base.frzs b o xs e), fun b ps e => ?_⟩, ?_, fun x c e => ?_, ?_, fun x c e => ?_, fun p hp => ?_, hok, I.len⟩
  · exact keep b o (neL b o e) hb (neC b o e hx) (I.base.keep b o e n hb hx) (I.base.free b o e n hx)
  · obtain ⟨sl, e1⟩ := I.base.slot b o e n hb hx
    obtain ⟨sl', e2⟩ := slot b _ (neL b o e) hb (neC b o e hx) e1 (I.base.free b o e n hx)
    exact ⟨sl', e2⟩
  · obtain ⟨o', e1⟩ := I.base.there b o e hx
    exact free b o' (neC b o e hx) e1 (I.base.free b o e n hx)
  · obtain ⟨o', e1⟩ := I.base.there b o e hx
    exact there b o' (neC b o e hx) e1
  · obtain ⟨m1, e1⟩ := I.base.tbls b ps e
    obtain ⟨m2, e2⟩ := tbls b _ e1
    exact ⟨m1 ++ m2, by rw [e2, Array.append_assoc]⟩
  · obtain ⟨m, hn, hl⟩ := I.loc
    refine ⟨m, ns m hn, fun i x v e1 e2 e3 => ?_⟩
    obtain ⟨u, r, l⟩ := hl i x v e1 e2 e3
    refine ⟨u, r, ?_⟩
    rcases l with l | ⟨k, c, e, z⟩
    · exact .inl l
    · exact .inr ⟨k, c, e, cellK x c e _ z⟩
  · obtain ⟨v, z⟩ := I.cell x c e
    exact ⟨v, cellK x c e v z⟩
  · obtain ⟨m, ⟨o, _, _, ho, _⟩, _⟩ := I.loc
    exact free _ o (fun z => (hch _ z).2.1 rfl) ho I.free
  · obtain ⟨v, o, ho, hd⟩ := I.cell x c e
    exact free c o (fun z => (hch c z).2.2.1 x c e rfl) ho (I.freeC x c e)
  · obtain ⟨e, n, ne, nf, d⟩ := I.pin p hp
    have nch : p.1 ∉ ch := fun z => (hch p.1 z).2.2.2 p hp rfl
    exact ⟨keep p.1 p.2 ne nf nch e n, free p.1 p.2 nch e n, ne, nf, d⟩
theorem Inv.un {t' : Nat} (I : Inv X pins σ H s) (u : Un X.fs [] H H' s.heap h') (hok : HOk X.prog X.w H' h') : Inv X pins σ H' { s with heap := h', toks := t' } := by
  obtain ⟨m, ⟨o, es, ep, ho, r⟩, _⟩ := id I.loc
  obtain ⟨sl, hL⟩ := u.any ho I.free (by simp)
  exact I.step (g' := s.gens) (d' := s.drawn) (ch := []) (fun _ z => nomatch z) (fun b o _ hb _ e n => u.keep b o e n hb (by simp)) (fun b o _ hb _ e n => u.slot b o e n hb (by simp)) (fun b o _ e n => u.free b o e n (by simp)) (fun b o _ e => u.there b o e (by simp)) u.tups u.frzs u.tbls (fun m' hm => by
    obtain ⟨o', es', ep', ho', r'⟩ := hm
    rw [ho] at ho'; cases ho'
    exact ⟨_, es', ep', hL, r'⟩) hok I.bare
theorem Inv.call {g' : Array GenState} {t' : Nat} {d' : Drawn} {ch : List Addr} (I : Inv X pins σ H s) (u : Un (frs X.stack) ch H H' s.heap h') (hok : HOk X.prog X.w H' h') (hg : AllBare g')
    (hch : ∀ b ∈ ch, (b ∈ X.ex ∨ X.s_0.heap.objs.size ≤ b) ∧ b ≠ X.env.locals ∧ (∀ x c, X.env.cells.lookup x = some c → c ≠ b) ∧ ∀ p ∈ X.pn ++ pins, p.1 ≠ b) :
    Inv X pins σ H' { s with heap := h', gens := g', drawn := d', toks := t' } := by
  obtain ⟨m, ⟨o, es, ep, ho, r⟩, _⟩ := id I.loc
  obtain ⟨sl, hL⟩ := u.any ho I.free fun z => (hch _ z).2.1 rfl
  exact I.step (ch := ch) hch (fun b o hL hb hc e n => u.keep b o e n (fun z => (List.mem_cons.mp (I.stkSub b z)).elim hL hb) hc) (fun b o _ _ hc e n => u.any e n hc) (fun b o hc e n => u.free b o e n hc) (fun b o hc e => u.there b o e hc) u.tups u.frzs u.tbls (fun m' hm => by
    obtain ⟨o', es', ep', ho', r'⟩ := hm
    rw [ho] at ho'; cases ho'
    exact ⟨_, es', ep', hL, r'⟩) hok hg
theorem Inv.turned {t' : Nat} {it : Addr} (I : Inv X pins σ H s) (k : ∀ b o, b ≠ it → s.heap.get? b = some o → h'.get? b = some o) (hn : H it = none) (hL : it ≠ X.env.locals)
    (h1 : it ∈ X.ex ∨ X.s_0.heap.objs.size ≤ it) (h2 : ∀ x c, X.env.cells.lookup x = some c → c ≠ it) (h3 : ∀ p ∈ X.pn ++ pins, p.1 ≠ it) : Inv X pins σ H { s with heap := h', toks := t' } := by
  have nit : ∀ b u, H b = some u → b ≠ it := fun b u e z => by rw [z, hn] at e; cases e
  refine I.step (g' := s.gens) (d' := s.drawn) (ch := [it]) (fun b hb => ?_) (fun b o _ _ hc e _ => k b o (fun z => hc (by simp [z])) e) (fun b o _ _ hc e _ => ⟨o.slots, k b o (fun z => hc (by simp [z])) e⟩) (fun _ _ _ _ n => n)
    (fun b o hc e => ⟨o, k b o (fun z => hc (by simp [z])) e⟩) (fun _ _ e => e) (fun _ _ _ e => e) (fun b ps e => ⟨#[], by rw [e]; simp⟩) (fun m hm => ?_) (fun b u e => ?_) I.bare
  · have e : b = it := by simpa using hb
    subst e
    exact ⟨h1, hL, h2, h3⟩
  · obtain ⟨o, es, ep, ho, r⟩ := hm
    exact ⟨o, es, ep, k _ o (Ne.symm hL) ho, r⟩
  · refine (I.hok b u e).stay (fun c v hc q => k c v ?_ q) (fun _ q => q) fun _ _ q => q
    rcases hc with z | z
    · rw [z]; exact nit b u e
    · exact nit c _ z
theorem Inv.tok (I : Inv X pins σ H s) (t : Nat) : Inv X pins σ H { s with toks := t } := I.un (h' := s.heap) (t' := t) Un.refl I.hok
theorem Inv.kept {t' : Nat} (I : Inv X pins σ H s) (k : ∀ b u, s.heap.get? b = some u → h'.get? b = some u) : Inv X pins σ H { s with heap := h', toks := t' } := I.un (Un.kept k) (I.hok.kept k)
theorem Inv.laid {a : Addr} {o : HO} {t' : Nat} (I : Inv X pins σ H s) (k : ∀ b u, s.heap.get? b = some u → h'.get? b = some u) (hp : s.heap.objs.size ≤ a) (new : ObjOk X.prog X.w (upd H a o) h' a o) :
    Inv X pins σ (upd H a o) { s with heap := h', toks := t' } := I.un (Un.laid k hp (I.hok.fresh hp)) (I.hok.laid k hp new)
theorem Inv.write {x e : Addr} {o : HO} {t' : Nat} (I : Inv X pins σ H s) (mu : Mut (H x)) (he : e = x ∨ H e = some (.own x)) (k : ∀ b u, b ≠ e → s.heap.get? b = some u → h'.get? b = some u) (heo : ∃ u, h'.get? e = some u)
    (new : ObjOk X.prog X.w (upd H x o) h' x o) : Inv X pins σ (upd H x o) { s with heap := h', toks := t' } := I.un (Un.write mu he k heo) (I.hok.write mu he k heo new)
theorem Inv.weak {σ' : List (Option V)} (I : Inv X pins σ H s) (hl : σ'.length = σ.length) (w : ∀ (i : Nat) v, σ'[i]? = some (some v) → σ[i]? = some (some v)) : Inv X pins σ' H s :=
  ⟨I.ok, I.os, I.bare, I.base, let ⟨m, hn, hl'⟩ := I.loc; ⟨m, hn, fun i x v e1 e2 e3 => hl' i x v e1 (w i v e2) e3⟩, I.cell, I.free, I.freeC, I.pin, I.hok, hl.trans I.len⟩
theorem Inv.pins_of {pins' : List (Addr × Obj)} (I : Inv X pins σ H s) (h : ∀ p ∈ pins', s.heap.get? p.1 = some p.2 ∧ H p.1 = none ∧ p.1 ≠ X.env.locals ∧ p.1 ∉ X.fs ∧ ∀ v, p.2.data ≠ .cell v) : Inv X pins' σ H s :=
  ⟨I.ok, I.os, I.bare, I.base, I.loc, I.cell, I.free, I.freeC, fun p hp => (List.mem_append.mp hp).elim (fun z => I.pin p (List.mem_append_left _ z)) (h p), I.hok, I.len⟩
theorem nodup_ix {N : List Str} (hN : N.Nodup) {i j : Nat} {x : Str} (a : N[i]? = some x) (b : N[j]? = some x) : i = j := by
  obtain ⟨h1, e1⟩ := List.getElem?_eq_some_iff.mp a
  obtain ⟨h2, e2⟩ := List.getElem?_eq_some_iff.mp b
  exact (List.getElem_inj hN).mp (e1.trans e2.symm)
theorem store_ok2 {M : Model} {A : Around} {E : Value → Shared → Prop} {i : Nat} {x : Str} {v : V} {u : Value} {Q : Unit → Shared → Prop} (I : Inv X pins σ H s) (hN : X.N.Nodup) (hi : X.N[i]? = some x) (hx : Loc X.env.scope x) (r : RelV v u)
    (h : ∀ s', Inv X pins (σ.set i (some v)) H s' → (∃ a, Heap.SameBut a s.heap s'.heap ∧ (a = X.env.locals ∨ X.env.cells.lookup x = some a)) → Q () s') (hf : X.fn x = true ∨ X.env.scope.names.lookup x = some .local := by first | exact .inl rfl | exact .inr rfl | assumption) : wpAny M A (storeName X.env x u) Q E s := by
  obtain ⟨m, hn, hl⟩ := id I.loc
  have hcls : (X.env.scope.kind == .class || (X.env.scope.kind == .module && X.env.locals != X.env.globals)) = false := by rw [I.ok.kind]; rfl
  have hiσ : i < σ.length := by rw [I.len]; exact (List.getElem?_eq_some_iff.mp hi).1
  have cne := I.cne
  have tracked : ∀ {a : Addr} {h' : Heap}, (∃ o, s.heap.get? a = some o ∧ H a = none) → Heap.SameBut a s.heap h' → HOk X.prog X.w H h' := fun {a h'} ha hs b ob e => by
    obtain ⟨_, _, hfree⟩ := ha
    refine (I.hok b ob e).stay (fun c w' hc q => (hs.2 c ?_).trans q) (fun _ q => q) fun _ _ q => q
    rintro rfl
    rcases hc with rfl | hc
    · rw [hfree] at e; cases e
    · rw [hfree] at hc; cases hc
  rcases hx with hk | hk
  · refine wpAny_storeName_local hk hn (fun h' hn' hs => ?_) hcls
    obtain ⟨oL, _, _, hoL, _⟩ := id hn
    refine h _ ⟨I.ok, I.os, I.bare, ⟨fun b o e n hb hx => ?_, fun b o e n hb hx => ?_, I.base.free, fun b o e hx => ?_, I.base.tups, I.base.frzs, I.base.tbls⟩, ⟨_, hn', fun j y v' e1 e2 e3 => ?_⟩, fun y c e => ?_, I.free, I.freeC, fun p hp => ?_, tracked ⟨oL, hoL, I.free⟩ hs, by simpa using I.len⟩ ⟨_, hs, .inl rfl⟩
    · exact (hs.2 b (Nat.ne_of_lt (Nat.lt_of_lt_of_le (Heap.lt_size e) I.ok.above))).trans (I.base.keep b o e n hb hx)
    · obtain ⟨sl, e1⟩ := I.base.slot b o e n hb hx
      exact ⟨sl, (hs.2 b (Nat.ne_of_lt (Nat.lt_of_lt_of_le (Heap.lt_size e) I.ok.above))).trans e1⟩
    · obtain ⟨o', e1⟩ := I.base.there b o e hx
      exact ⟨o', (hs.2 b (Nat.ne_of_lt (Nat.lt_of_lt_of_le (Heap.lt_size e) I.ok.above))).trans e1⟩
    · by_cases hj : j = i
      · subst hj
        rw [hi] at e1; cases e1
        rw [List.getElem?_set_self hiσ] at e2
        cases e2
        exact ⟨u, r, .inl ⟨hk, by simp⟩⟩
      · rw [List.getElem?_set_ne (Ne.symm hj)] at e2
        obtain ⟨u', r', q⟩ := hl j y v' e1 e2 e3
        refine ⟨u', r', ?_⟩
        rcases q with ⟨k, e⟩ | ⟨k, c, e, z⟩
        · refine .inl ⟨k, ?_⟩
          have : y ≠ x := fun e => hj (nodup_ix hN e1 (e ▸ hi))
          simp [this, e]
        · exact .inr ⟨k, c, e, z.sameBut hs (cne y c e)⟩
    · obtain ⟨w', z⟩ := I.cell y c e
      exact ⟨w', z.sameBut hs (cne y c e)⟩
    · obtain ⟨e, n, ne, nf, d⟩ := I.pin p hp
      exact ⟨(hs.2 p.1 ne).trans e, n, ne, nf, d⟩
  · have hfn : X.fn x = true := by
      rcases hf with z | z
      · exact z
      · rw [z] at hk; cases hk
    obtain ⟨c, hc⟩ := I.ok.has x (.inl hk)
    obtain ⟨w', z⟩ := I.cell x c hc
    refine wpAny_storeName_cell I.ok.kind hk hc z (fun h' hc' hs => ?_)
    obtain ⟨oc, hoc, hocd⟩ := id z
    refine h { s with heap := h' } ⟨I.ok, I.os, I.bare, ⟨fun b o e n hb hx => ?_, fun b o e n hb hx => ?_, I.base.free, fun b o e hx => ?_, I.base.tups, I.base.frzs, I.base.tbls⟩, ⟨m, hn.sameBut hs (Ne.symm (cne x c hc)), fun j y v' e1 e2 e3 => ?_⟩, fun y c' e => ?_, I.free, I.freeC, fun p hp => ?_, tracked ⟨oc, hoc, I.freeC x c hc⟩ hs, by simpa using I.len⟩ ⟨c, hs, .inr hc⟩
    · exact (hs.2 b (Nat.ne_of_lt (Nat.lt_of_lt_of_le (Heap.lt_size e) (I.ok.cab x c hfn hc)))).trans (I.base.keep b o e n hb hx)
    · obtain ⟨sl, e1⟩ := I.base.slot b o e n hb hx
      exact ⟨sl, (hs.2 b (Nat.ne_of_lt (Nat.lt_of_lt_of_le (Heap.lt_size e) (I.ok.cab x c hfn hc)))).trans e1⟩
    · obtain ⟨o', e1⟩ := I.base.there b o e hx
      exact ⟨o', (hs.2 b (Nat.ne_of_lt (Nat.lt_of_lt_of_le (Heap.lt_size e) (I.ok.cab x c hfn hc)))).trans e1⟩
    · by_cases hj : j = i
      · subst hj
        rw [hi] at e1; cases e1
        rw [List.getElem?_set_self hiσ] at e2
        cases e2
        exact ⟨u, r, .inr ⟨.inl hk, c, hc, hc'⟩⟩
      · rw [List.getElem?_set_ne (Ne.symm hj)] at e2
        obtain ⟨u', r', q⟩ := hl j y v' e1 e2 e3
        refine ⟨u', r', ?_⟩
        rcases q with q | ⟨k, c', e, z'⟩
        · exact .inl q
        · refine .inr ⟨k, c', e, z'.sameBut hs ?_⟩
          rintro rfl
          exact hj (nodup_ix hN e1 (I.ok.inj _ _ _ e hc ▸ hi))
    · by_cases hcc : c' = c
      · subst hcc; exact ⟨_, hc'⟩
      · obtain ⟨w2, z2⟩ := I.cell y c' e
        exact ⟨w2, z2.sameBut hs hcc⟩
    · obtain ⟨e, n, ne, nf, d⟩ := I.pin p hp
      refine ⟨(hs.2 p.1 ?_).trans e, n, ne, nf, d⟩
      intro q
      rw [q, hoc] at e
      have q' : oc = p.2 := Option.some.inj e
      exact d w' (by rw [← q']; exact hocd)
theorem store_ok {M : Model} {A : Around} {E : Value → Shared → Prop} {i : Nat} {x : Str} {v : V} {u : Value} {Q : Unit → Shared → Prop} (I : Inv X pins σ H s) (hN : X.N.Nodup) (hi : X.N[i]? = some x) (hx : Loc X.env.scope x) (r : RelV v u)
    (h : ∀ s', Inv X pins (σ.set i (some v)) H s' → Q () s') (hf : X.fn x = true ∨ X.env.scope.names.lookup x = some .local := by first | exact .inl rfl | exact .inr rfl | assumption) : wpAny M A (storeName X.env x u) Q E s :=
  store_ok2 I hN hi hx r (fun s' I' _ => h s' I') hf
theorem Inv.call' {s' : Shared} {ch : List Addr} (I : Inv X pins σ H s) (ho : s'.os = s.os) (u : Un (frs X.stack) ch H H' s.heap s'.heap) (hok : HOk X.prog X.w H' s'.heap) (hg : AllBare s'.gens)
    (hch : ∀ b ∈ ch, (b ∈ X.ex ∨ X.s_0.heap.objs.size ≤ b) ∧ b ≠ X.env.locals ∧ (∀ x c, X.env.cells.lookup x = some c → c ≠ b) ∧ ∀ p ∈ X.pn ++ pins, p.1 ≠ b) : Inv X pins σ H' s' := by
  obtain ⟨h', g', d', t', o'⟩ := s'
  have e : o' = s.os := ho
  subst e
  exact I.call (g' := g') (t' := t') (d' := d') u hok hg hch
end
abbrev XK := Value → Option Addr → Hp → Prop
abbrev St := List (Option V)
abbrev VK := V → Hp → Prop
abbrev TE := St → Hp → VK → Prop
abbrev TT := St → Hp → (Bool → Hp → Prop) → Prop
abbrev TA := St → Hp → (List V → Hp → Prop) → Prop
structure Ends where
  nx : St → Hp → Prop
  rt : VK
  bk : St → Hp → Prop := fun _ _ => False
  ct : St → Hp → Prop := fun _ _ => False
abbrev TS := Ends → St → Hp → Prop
def EP (X : Cx) (pins : List (Addr × Obj)) (σ : St) (Q : VK) (u : Value) (s' : Shared) : Prop := ∃ v H', Inv X pins σ H' s' ∧ RelV v u ∧ Q v H'
def TP (X : Cx) (pins : List (Addr × Obj)) (σ : St) (Q : Bool → Hp → Prop) (b : Bool) (s' : Shared) : Prop := ∃ H', Inv X pins σ H' s' ∧ Q b H'
def AP (X : Cx) (pins : List (Addr × Obj)) (σ : St) (Q : List V → Hp → Prop) (us : List Value) (s' : Shared) : Prop := ∃ vs H', Inv X pins σ H' s' ∧ Vals vs us ∧ Q vs H'
def SP (X : Cx) (pins : List (Addr × Obj)) (D : Ends) (f : Flow) (s' : Shared) : Prop :=
  match f with
  | .next => ∃ σ' H', Inv X pins σ' H' s' ∧ D.nx σ' H'
  | .brk => ∃ σ' H', Inv X pins σ' H' s' ∧ D.bk σ' H'
  | .cont => ∃ σ' H', Inv X pins σ' H' s' ∧ D.ct σ' H'
  | .ret u => ∃ v σ' H', Inv X pins σ' H' s' ∧ RelV v u ∧ D.rt v H'
def PE (X : Cx) (e : Expr) (t : TE) : Prop :=
  ∀ (pins : List (Addr × Obj)) (s : Shared) (σ : St) (H : Hp) (Q : VK), Inv X pins σ H s → t σ H Q → wpAny (model X.prog X.w) X.A (eval e X.env) (EP X pins σ Q) X.xe s
def PT (X : Cx) (e : Expr) (t : TT) : Prop :=
  ∀ (pins : List (Addr × Obj)) (s : Shared) (σ : St) (H : Hp) (Q : Bool → Hp → Prop), Inv X pins σ H s → t σ H Q → wpAny (model X.prog X.w) X.A (isTrue e X.env (eval e X.env)) (TP X pins σ Q) X.xe s
def PW (X : Cx) (e : Expr) (t : TT) : Prop :=
  ∀ (whole : Sem Value) (pins : List (Addr × Obj)) (s : Shared) (σ : St) (H : Hp) (Q : Bool → Hp → Prop), Inv X pins σ H s → t σ H Q → wpAny (model X.prog X.w) X.A (isTrue e X.env whole) (TP X pins σ Q) X.xe s
theorem PW.pt {X : Cx} {e : Expr} {t : TT} (h : PW X e t) : PT X e t := h _
def PA (X : Cx) (es : List Expr) (t : TA) : Prop :=
  ∀ (pos : Pos) (pins : List (Addr × Obj)) (s : Shared) (σ : St) (H : Hp) (Q : List V → Hp → Prop), Inv X pins σ H s → t σ H Q → wpAny (model X.prog X.w) X.A (spliced (backTo pos (starEach es X.env))) (AP X pins σ Q) X.xe s
def PS (X : Cx) (st : Stmt) (t : TS) : Prop :=
  ∀ (pins : List (Addr × Obj)) (s : Shared) (σ : St) (H : Hp) (D : Ends), Inv X pins σ H s → t D σ H → wpAny (model X.prog X.w) X.A (exec st X.env) (SP X pins D) X.xe s
def PSs (X : Cx) (st : List Stmt) (t : TS) : Prop :=
  ∀ (pins : List (Addr × Obj)) (s : Shared) (σ : St) (H : Hp) (D : Ends), Inv X pins σ H s → t D σ H → wpAny (model X.prog X.w) X.A (execs st X.env) (SP X pins D) X.xe s
theorem thn {α : Type} {t : Sem α} {Q Q' : α → Shared → Prop} {M : Model} {A : Around} {E : Value → Shared → Prop} {s : Shared} (h : wpAny M A t Q E s) (hQ : ∀ a s, Q a s → Q' a s) : wpAny M A t Q' E s := wpAny_mono h hQ fun _ _ x => x
end L2
namespace L2
open PySem PySem.Spec PyProof.Rows
section
variable {X : Cx}
def tVar (i : Nat) : TE := fun σ H Q => ∃ v, σ[i]? = some (some v) ∧ Q v H
def tC (v : V) : TE := fun _ H Q => Q v H
theorem pe_var {i : Nat} {x : Str} {pos : Pos} (hN : X.N[i]? = some x) (hv : Vis X.env.scope x) (hd : (x == ("__debug__" : Str)) = false := by decide) (hcd : (x == ("__classdict__" : Str)) = false := by decide) : PE X (.Name x pos) (tVar i) := by
  intro pins s σ H Q I h
  obtain ⟨v, e, h⟩ := h
  obtain ⟨m, hn, hl⟩ := I.loc
  obtain ⟨u, r, l⟩ := hl i x v hN e hv
  have fin : EP X pins σ Q u s := ⟨v, H, I, r, h⟩
  rcases l with ⟨hk, hm⟩ | ⟨hk, c, hc, hcell⟩
  · exact wpAny_Name (wpAny_loadName_local I.ok.kind hk hn hm fin) hd
  · rcases hk with hk | hk
    · exact wpAny_Name (wpAny_loadName_cell I.ok.kind hk hc hcell fin) hd
    · exact wpAny_Name (wpAny_loadName_free I.ok.kind hk hc hcell fin hcd) hd
theorem pe_int {i j pos} : PE X (.Constant (.int i) j pos) (tC (.int i)) := fun _ _ _ H _ I h => wpAny_Constant_int ⟨.int i, H, I.tok _, ⟨_, rfl⟩, h⟩
theorem pe_bl {b j pos} : PE X (.Constant (.bool b) j pos) (tC (.bl b)) := fun _ _ _ H _ I h => Constant_bool ⟨.bl b, H, I, rfl, h⟩
theorem pe_non {j pos} : PE X (.Constant .none j pos) (tC .non) := fun _ _ _ H _ I h => Constant_none ⟨.non, H, I, rfl, h⟩
theorem pe_str {x j pos} : PE X (.Constant (.str x) j pos) (tC (.str x)) := fun _ _ _ H _ I h => Calls.Constant_str ⟨.str x, H, I.tok _, ⟨_, rfl⟩, h⟩
def Gl (X : Cx) (x : Str) : Prop := X.env.kindOf x = some .globalImplicit
theorem ld_glob {E : Value → Shared → Prop} {pins : List (Addr × Obj)} {s : Shared} {σ : St} {H : Hp} {x : Str} {u : Value} {pos : Pos} {Q : Value → Shared → Prop} (I : Inv X pins σ H s) (hg : Gl X x) (hm : X.mg x = some u) (h : Q u s)
    (hd : (x == ("__debug__" : Str)) = false := by decide) : wpAny (model X.prog X.w) X.A (eval (.Name x pos) X.env) Q E s :=
  Calls.Name_function_global I.ok.kind hg (Calls.loadGlobal_global (by rw [I.ok.glob]; exact I.mod.glob.keeps I.bk) hm h) hd
theorem ld_blt {E : Value → Shared → Prop} {pins : List (Addr × Obj)} {s : Shared} {σ : St} {H : Hp} {x : Str} {u : Value} {pos : Pos} {Q : Value → Shared → Prop} (I : Inv X pins σ H s) (hg : Gl X x) (hm : X.mg x = none) (hv : bootBuiltins x = some u) (h : Q u s)
    (hn : x ≠ "__name__" := by decide) (hd : (x == ("__debug__" : Str)) = false := by decide) : wpAny (model X.prog X.w) X.A (eval (.Name x pos) X.env) Q E s := by
  obtain ⟨mb, h1, h2⟩ := I.mod.blt
  exact Calls.Name_function_global I.ok.kind hg (Calls.loadGlobal_builtin (by rw [I.ok.glob]; exact I.mod.glob.keeps I.bk) hm (by rw [I.ok.blt]; exact h1.keeps I.bk) ((h2 x hn).trans hv) h) hd
theorem pe_glob {x : Str} {v : V} {u : Value} {pos : Pos} (hg : Gl X x) (hm : X.mg x = some u) (r : RelV v u) (hd : (x == ("__debug__" : Str)) = false := by decide) : PE X (.Name x pos) (tC v) :=
  fun _ _ _ H _ I h => ld_glob I hg hm ⟨v, H, I, r, h⟩ hd
variable {a b : Expr} {ta tb : TE} {pos : Pos}
def PC (X : Cx) (op : CmpOp) (a b : Expr) (t : TE) : Prop :=
  ∀ (pins : List (Addr × Obj)) (s : Shared) (σ : St) (H : Hp) (Q : VK), Inv X pins σ H s → t σ H Q →
    wpAny (model X.prog X.w) X.A (eval a X.env) (fun v s₁ => wpAny (model X.prog X.w) X.A (eval b X.env) (fun u s₂ => wpAny (model X.prog X.w) X.A (compareOp op v u) (EP X pins σ Q) X.xe s₂) X.xe s₁) X.xe s
def tIsN (ta : TE) : TE := fun σ H Q => ta σ H fun x H1 => Q (.bl (decide (x = .non))) H1
theorem RelV.none_iff {x : V} {v : Value} (r : RelV x v) : (v == Value.none) = decide (x = .non) := by
  cases x with
  | non => cases r; rfl
  | bl _ => cases r; rfl
  | int _ => obtain ⟨t, rfl⟩ := r; rfl
  | str _ => obtain ⟨t, rfl⟩ := r; rfl
  | byt _ => obtain ⟨t, rfl⟩ := r; rfl
  | flt _ => obtain ⟨t, rfl⟩ := r; rfl
  | ref _ => cases r; rfl
  | ty _ => cases r; rfl
theorem pc_isN {j pos'} (ha : PE X a ta) : PC X .Is a (.Constant .none j pos') (tIsN ta) := by
  intro pins s σ H Q I h
  refine thn (ha pins s σ H _ I h) fun v s1 ⟨x, H1, I1, r1, q1⟩ => ?_
  exact Constant_none (is_none_gen ⟨.bl _, H1, I1, by rw [r1.none_iff]; rfl, q1⟩)
def tB (t : TE) : TT := fun σ H Q => t σ H fun x H1 => ∃ c, x = .bl c ∧ Q c H1
theorem pt_cmp {op : CmpOp} {t : TE} (h : PC X op a b t) (h1 : behindInMarks op b = false := by first | exact nobehind _ (by decide) (by decide) | rfl) : PT X (.Compare a [op] [b] pos) (tB t) := by
  intro pins s σ H Q I hw
  refine wpAny_isTrue_Compare1 (thn (h pins s σ H _ I hw) fun v s1 h1 => thn h1 fun u s2 h2 => thn h2 fun c s3 ⟨x, H1, I1, r1, q1⟩ => ?_) h1
  obtain ⟨d, rfl, q⟩ := q1
  cases r1
  exact wpAny_truthy_bool ⟨H1, I1, q⟩
theorem pt_val {e : Expr} {t : TE} (h : PE X e t) (he : ∀ whole, isTrue e X.env whole = (do let v ← whole; standAt e.pos; holding [v] (truthy v)) := by intro _; rfl) : PT X e (tB t) := by
  intro pins s σ H Q I hw
  refine isTrue_plain (thn (h pins s σ H _ I hw) fun v s1 ⟨x, H1, I1, r1, q1⟩ => ?_) (he _)
  obtain ⟨d, rfl, q⟩ := q1
  cases r1
  exact wpAny_truthy_bool ⟨H1, I1, q⟩
variable {tA tB' : TT} {rest : List Expr}
def tAnd (t u : TT) : TT := fun σ H Q => t σ H fun c H1 => if c = true then u σ H1 Q else Q false H1
def tOr (t u : TT) : TT := fun σ H Q => t σ H fun c H1 => if c = true then Q true H1 else u σ H1 Q
def tNot (t : TT) : TT := fun σ H Q => t σ H fun c H1 => Q (!c) H1
theorem pw_and1 (ha : PT X a tA) : PW X (.BoolOp .And [a] pos) tA := by
  intro wh pins s σ H Q I h
  refine isTrue_and (thn (ha pins s σ H Q I h) fun c s1 e => ?_)
  cases c with
  | true => exact isTrue_and_nil e
  | false => exact e
theorem pw_or1 (ha : PT X a tA) : PW X (.BoolOp .Or [a] pos) tA := by
  intro wh pins s σ H Q I h
  refine isTrue_or (thn (ha pins s σ H Q I h) fun c s1 e => ?_)
  cases c with
  | false => exact isTrue_or_nil e
  | true => exact e
theorem pw_and (ha : PT X a tA) (hb : PW X (.BoolOp .And (b :: rest) pos) tB') : PW X (.BoolOp .And (a :: b :: rest) pos) (tAnd tA tB') := by
  intro wh pins s σ H Q I h
  refine isTrue_and (thn (ha pins s σ H _ I h) fun c s1 ⟨H1, I1, q1⟩ => ?_)
  cases c with
  | true => exact hb wh pins s1 σ H1 Q I1 q1
  | false => exact ⟨H1, I1, q1⟩
theorem pw_or (ha : PT X a tA) (hb : PW X (.BoolOp .Or (b :: rest) pos) tB') : PW X (.BoolOp .Or (a :: b :: rest) pos) (tOr tA tB') := by
  intro wh pins s σ H Q I h
  refine isTrue_or (thn (ha pins s σ H _ I h) fun c s1 ⟨H1, I1, q1⟩ => ?_)
  cases c with
  | true => exact ⟨H1, I1, q1⟩
  | false => exact hb wh pins s1 σ H1 Q I1 q1
theorem pt_not (ha : PT X a tA) : PT X (.UnaryOp .Not a pos) (tNot tA) := by
  intro pins s σ H Q I h
  exact isTrue_not (ha pins s σ H (fun c H1 => Q (!c) H1) I h)
def tAndV (ta tb : TE) : TE := fun σ H Q => ta σ H fun x H1 => ∃ c, x = .bl c ∧ if c = true then tb σ H1 Q else Q (.bl false) H1
theorem pe_one {op} {t : TE} (h : PE X a t) : PE X (.BoolOp op [a] pos) t := fun pins s σ H Q I hw => BoolOp_one (h pins s σ H Q I hw)
theorem pe_and (ha : PE X a ta) (hb : PE X (.BoolOp .And (b :: rest) pos) tb) : PE X (.BoolOp .And (a :: b :: rest) pos) (tAndV ta tb) := by
  intro pins s σ H Q I h
  refine BoolOp_and (thn (ha pins s σ H _ I h) fun v s1 ⟨x, H1, I1, r1, q1⟩ => ?_)
  obtain ⟨c, rfl, q1⟩ := q1
  cases r1
  refine wpAny_truthy_bool ?_
  cases c with
  | true => exact hb pins s1 σ H1 Q I1 q1
  | false => exact ⟨.bl false, H1, I1, rfl, q1⟩
end
end L2
namespace L2
open PySem PySem.Spec PyProof.Rows
def SqL (K : PySem.W.Frag) (H : Hp) (a : Addr) (xs : List V) : Prop :=
  Rd H a (.lst xs) ∨
    ∃ (o : Obj) (its : Array Value) (n : Nat), K.lookup a = some o ∧ o.cls = .type "list" ∧ o.dict = none ∧ o.data = .seq its n ∧ its.size ≤ sizeLine ∧ Vals xs its.toList
def SqT (K : PySem.W.Frag) (H : Hp) (a : Addr) (xs : List V) : Prop :=
  Rd H a (.tup xs) ∨
    ∃ (o : Obj) (its : Array Value) (n : Nat), K.lookup a = some o ∧ o.cls = .type "tuple" ∧ o.data = .seq its n ∧ its.size ≤ sizeLine ∧ Vals xs its.toList
def absV : Value → Option V
  | .none => some .non
  | .bool b => some (.bl b)
  | .int i _ => some (.int i)
  | .str x _ => some (.str x)
  | .bytes b _ => some (.byt b)
  | .float b _ => some (.flt b)
  | .ref a => some (.ref a)
  | .type n => some (.ty n)
  | _ => none
theorem RelV.abs {x : V} {u : Value} (r : RelV x u) : absV u = some x := by
  cases x with
  | non => cases r; rfl
  | bl _ => cases r; rfl
  | int _ => obtain ⟨t, rfl⟩ := r; rfl
  | str _ => obtain ⟨t, rfl⟩ := r; rfl
  | byt _ => obtain ⟨t, rfl⟩ := r; rfl
  | flt _ => obtain ⟨t, rfl⟩ := r; rfl
  | ref _ => cases r; rfl
  | ty _ => cases r; rfl
theorem RelV.inj {x y : V} {u : Value} (r : RelV x u) (q : RelV y u) : x = y := Option.some.inj (r.abs.symm.trans q.abs)
theorem Vals.inj : ∀ {xs ys : List V} {us : List Value}, Vals xs us → Vals ys us → xs = ys
  | _, _, _, .nil, .nil => rfl
  | _, _, _, .cons r t, .cons r' t' => by rw [r.inj r', Vals.inj t t']
section
variable {X : Cx} {pins : List (Addr × Obj)} {σ : St} {H : Hp} {s : Shared} {a : Addr} {xs ys : List V}
theorem SqL.of {K : PySem.W.Frag} (h : H a = some (.lst xs)) : SqL K H a xs := .inl (.inl h)
theorem SqT.of {K : PySem.W.Frag} (h : H a = some (.tup xs)) : SqT K H a xs := .inl (.inl h)
theorem Inv.list (I : Inv X pins σ H s) (h : SqL X.K H a xs) : ∃ its : List Value, Vals xs its ∧ PlainL s.heap a its.toArray ∧ xs.length ≤ sizeLine := by
  rcases h with h | ⟨o, its, n, hk, hc, hd, hs, hz, r⟩
  · obtain ⟨z, its, n, r, e⟩ := h.ok I.hok
    exact ⟨its, r, ⟨_, n, e, rfl, rfl, rfl⟩, z⟩
  · refine ⟨its.toList, r, ⟨o, n, I.kIn a o hk, hc, hd, by simpa using hs⟩, ?_⟩
    have e := r.length
    simp only [Array.length_toList] at e
    omega
theorem Inv.tuple (I : Inv X pins σ H s) (h : SqT X.K H a xs) : ∃ its : List Value, Vals xs its ∧ IsTup s.heap a its.toArray ∧ xs.length ≤ sizeLine := by
  rcases h with h | ⟨o, its, n, hk, hc, hs, hz, r⟩
  · obtain ⟨z, its, r, p⟩ := h.ok I.hok
    exact ⟨its, r, p, z⟩
  · refine ⟨its.toList, r, ⟨o, I.kIn a o hk, hc, n, by simpa using hs⟩, ?_⟩
    have e := r.length
    simp only [Array.length_toList] at e
    omega
theorem Inv.list_inj (I : Inv X pins σ H s) (h : SqL X.K H a xs) (h' : SqL X.K H a ys) : xs = ys := by
  obtain ⟨its, r, ⟨o, n, e, _, _, d⟩, _⟩ := I.list h
  obtain ⟨its', r', ⟨o', n', e', _, _, d'⟩, _⟩ := I.list h'
  rw [e] at e'; cases e'
  rw [d] at d'
  injection d' with d1 _
  have : its = its' := by simpa using congrArg Array.toList d1
  subst this
  exact r.inj r'
end
abbrev Cx.wish (X : Cx) (E : Value → Shared → Prop) : Cx := { X with xe := E }
abbrev Cx.nox (X : Cx) : Cx := X.wish fun _ _ => False
theorem Cx.Ok.wish {X : Cx} (ok : X.Ok) (E : Value → Shared → Prop) : (X.wish E).Ok :=
  ⟨ok.mod, ok.kind, ok.glob, ok.blt, ok.above, ok.inj, ok.has, ok.cab, ok.hd, ok.frames, ok.stk, ok.exf, ok.bs, ok.bsz, ok.noex, ok.exfs, ok.funs, ok.frf⟩
theorem Cx.Ok.unwish {X : Cx} {E : Value → Shared → Prop} (ok : (X.wish E).Ok) : X.Ok :=
  ⟨ok.mod, ok.kind, ok.glob, ok.blt, ok.above, ok.inj, ok.has, ok.cab, ok.hd, ok.frames, ok.stk, ok.exf, ok.bs, ok.bsz, ok.noex, ok.exfs, ok.funs, ok.frf⟩
section
variable {X : Cx} {pins : List (Addr × Obj)} {σ : St} {H : Hp} {s : Shared} {E : Value → Shared → Prop}
theorem Inv.wish (I : Inv X pins σ H s) (E : Value → Shared → Prop) : Inv (X.wish E) pins σ H s := ⟨I.ok.wish E, I.os, I.bare, I.base, I.loc, I.cell, I.free, I.freeC, I.pin, I.hok, I.len⟩
theorem Inv.unwish (I : Inv (X.wish E) pins σ H s) : Inv X pins σ H s := ⟨I.ok.unwish, I.os, I.bare, I.base, I.loc, I.cell, I.free, I.freeC, I.pin, I.hok, I.len⟩
theorem SP.unwish {D : Ends} {f : Flow} {s' : Shared} (h : SP (X.wish E) pins D f s') : SP X pins D f s' := by
  cases f with
  | next => obtain ⟨σ', H', I, q⟩ := h; exact ⟨σ', H', I.unwish, q⟩
  | brk => obtain ⟨σ', H', I, q⟩ := h; exact ⟨σ', H', I.unwish, q⟩
  | cont => obtain ⟨σ', H', I, q⟩ := h; exact ⟨σ', H', I.unwish, q⟩
  | ret u => obtain ⟨v, σ', H', I, r, q⟩ := h; exact ⟨v, σ', H', I.unwish, r, q⟩
theorem PSs.nox {st : List Stmt} {t : TS} (h : PSs X.nox st t) : PSs X st t := fun pins s σ H D I hw =>
  wpAny_mono (h pins s σ H D (I.wish _) hw) (fun _ _ q => q.unwish) fun _ _ z => False.elim z
end
section
variable {X : Cx} {st : Stmt} {rest : List Stmt} {t u : TS} {e : Expr} {te : TE} {pos : Pos}
def tNext : TS := fun D σ H => D.nx σ H
def tSeq (t u : TS) : TS := fun D σ H => t { D with nx := u D } σ H
theorem pss_nil : PSs X [] tNext := fun _ _ σ H _ I h => wpAny_execs_nil ⟨σ, H, I, h⟩
theorem pss_cons (h1 : PS X st t) (h2 : PSs X rest u) : PSs X (st :: rest) (tSeq t u) := by
  intro pins s σ H D I h
  refine wpAny_execs_cons (thn (h1 pins s σ H { D with nx := u D } I h) fun f s1 q => ?_)
  cases f with
  | next =>
    obtain ⟨σ', H', I', q⟩ := q
    exact h2 pins s1 σ' H' D I' q
  | ret v => exact q
  | brk => exact q
  | cont => exact q
theorem pss_one (h1 : PS X st t) : PSs X [st] t := by
  intro pins s σ H D I h
  refine wpAny_execs_cons (thn (h1 pins s σ H D I h) fun f s1 q => ?_)
  cases f with
  | next => exact wpAny_execs_nil q
  | ret v => exact q
  | brk => exact q
  | cont => exact q
def tBreak : TS := fun D σ H => D.bk σ H
theorem ps_break : PS X (.Break pos) tBreak := fun _ _ σ H _ I h => wpAny_Break ⟨σ, H, I, h⟩
theorem Inv.quiet {pins : List (Addr × Obj)} {σ : St} {H : Hp} {s : Shared} (I : Inv X pins σ H s) : interactive X.env = false := by simp [interactive, I.ok.kind]
def tDrop (te : TE) : TS := fun D σ H => te σ H fun _ H1 => D.nx σ H1
theorem ps_expr (he : PE X e te) (hs : swapsWith e none pos.line X.env = pure false := by rfl) : PS X (.Expr e pos) (tDrop te) := by
  intro pins s σ H D I h
  exact wpAny_Expr_any (thn (he pins s σ H _ I h) fun v s1 ⟨x, H1, I1, r1, q1⟩ => ⟨σ, H1, I1, q1⟩) I.quiet hs
def tRet (te : TE) : TS := fun D σ H => te σ H D.rt
theorem ps_ret (he : PE X e te) : PS X (.Return (some e) pos) (tRet te) := by
  intro pins s σ H D I h
  exact wpAny_Return_some (thn (he pins s σ H _ I h) fun v s1 ⟨x, H1, I1, r1, q1⟩ => ⟨x, σ, H1, I1, r1, q1⟩)
def tIfS (c : TT) (t u : TS) : TS := fun D σ H => c σ H fun b H1 => if b = true then t D σ H1 else u D σ H1
theorem ps_if {c : Expr} {a b : List Stmt} {tc : TT} (hc : PT X c tc) (ha : PSs X a t) (hb : PSs X b u) : PS X (.If c a b pos) (tIfS tc t u) := by
  intro pins s σ H D I h
  refine wpAny_If (thn (hc pins s σ H _ I h) fun d s1 ⟨H1, I1, q1⟩ => ?_)
  cases d with
  | true => exact ha pins s1 σ H1 D I1 q1
  | false => exact hb pins s1 σ H1 D I1 q1
end
abbrev TG := V → St → Hp → (St → Hp → Prop) → Prop
abbrev TGs := List V → St → Hp → (St → Hp → Prop) → Prop
def PG (X : Cx) (target : Expr) (t : TG) : Prop :=
  ∀ (pins : List (Addr × Obj)) (s : Shared) (σ : St) (H : Hp) (v : V) (u : Value) (Q : St → Hp → Prop), Inv X pins σ H s → RelV v u → t v σ H Q →
    wpAny (model X.prog X.w) X.A (assign target X.env u) (fun _ s' => ∃ σ' H', Inv X pins σ' H' s' ∧ Q σ' H') X.xe s
def PGs (X : Cx) (ts : List Expr) (t : TGs) : Prop :=
  ∀ (pins : List (Addr × Obj)) (s : Shared) (σ : St) (H : Hp) (vs : List V) (us : List Value) (Q : St → Hp → Prop), Inv X pins σ H s → Vals vs us → t vs σ H Q →
    wpAny (model X.prog X.w) X.A (assignInOrder ((assignEach ts X.env).map (·.2)) us) (fun _ s' => ∃ σ' H', Inv X pins σ' H' s' ∧ Q σ' H') X.xe s
abbrev TIp := V → V → Hp → VK → Prop
def PIp (X : Cx) (op : Operator) (t : TIp) : Prop :=
  ∀ (pins : List (Addr × Obj)) (s : Shared) (σ : St) (H : Hp) (x y : V) (v u : Value) (Q : VK), Inv X pins σ H s → RelV x v → RelV y u → t x y H Q →
    wpAny (model X.prog X.w) X.A (inplaceOp op v u) (EP X pins σ Q) X.xe s
section
variable {X : Cx} {pos : Pos}
def gName (i : Nat) : TG := fun v σ H Q => Q (σ.set i (some v)) H
theorem pg_name {i : Nat} {x : Str} (hN : X.N.Nodup) (hi : X.N[i]? = some x) (hx : Loc X.env.scope x) (hf : X.fn x = true ∨ X.env.scope.names.lookup x = some .local := by first | exact .inl rfl | exact .inr rfl | assumption) : PG X (.Name x pos) (gName i) := by
  intro pins s σ H v u Q I r h
  exact wpAny_assign_Name (store_ok I hN hi hx r (fun s' I' => ⟨_, H, I', h⟩) hf)
def gNil : TGs := fun vs σ H Q => vs = [] ∧ Q σ H
def gCons (t : TG) (u : TGs) : TGs := fun vs σ H Q => ∃ v r, vs = v :: r ∧ t v σ H fun σ' H' => u r σ' H' Q
theorem pgs_nil : PGs X [] gNil := by
  intro pins s σ H vs us Q I r h
  obtain ⟨e, h⟩ := h
  subst e
  cases r
  exact assignInOrder_nil ⟨σ, H, I, h⟩
theorem pgs_cons {e : Expr} {es : List Expr} {t : TG} {u : TGs} (h1 : PG X e t) (h2 : PGs X es u)
    (hs : (assignEach (e :: es) X.env).map (·.2) = assign e X.env :: (assignEach es X.env).map (·.2) := by rfl) : PGs X (e :: es) (gCons t u) := by
  intro pins s σ H vs us Q I r h
  obtain ⟨v, vr, e1, h⟩ := h
  subst e1
  cases r with
  | cons r rr =>
    rw [hs]
    refine assignInOrder_cons (thn (h1 pins s σ H _ _ _ I r h) fun _ s1 ⟨σ1, H1, I1, q1⟩ => ?_)
    exact h2 pins s1 σ1 H1 _ _ Q I1 rr q1
def gTup (K : PySem.W.Frag) (n : Nat) (t : TGs) : TG := fun v σ H Q => ∃ a xs, v = .ref a ∧ SqT K H a xs ∧ xs.length = n ∧ t xs σ H Q
theorem pg_tup {es : List Expr} {k : Nat} {t : TGs} {n : Nat} (hc : X.calm = true) (h : PGs X es t)
    (hn : (assignEach es X.env).length = n := by rfl) (hst : (assignEach es X.env).findIdx? (·.1) = none := by rfl) : PG X (.Tuple es k pos) (gTup X.K n t) := by
  intro pins s σ H v u Q I r hw
  obtain ⟨a, xs, e1, hq, hl, hw⟩ := hw
  subst e1
  cases r
  obtain ⟨its, rv, ht, hz⟩ := I.tuple hq
  refine assign_Tuple_tuple (I.ok.hd hc) ht (by simp [hn, ← hl, rv.length]) hst fun h' hx => ?_
  have I1 : Inv X pins σ H { s with heap := h' } := I.kept (t' := s.toks) fun b o e => hx b o (Nat.ne_of_lt (Heap.lt_size e)) e
  exact h pins _ σ H xs _ Q I1 (by simpa using rv) hw
def tAsg (te : TE) (g : TG) : TS := fun D σ H => te σ H fun x H1 => g x σ H1 D.nx
theorem ps_set {i : Nat} {x : Str} {e : Expr} {te : TE} {pos' : Pos} (hN : X.N.Nodup) (hi : X.N[i]? = some x) (hx : Loc X.env.scope x) (he : PE X e te) (hs : swapsWith e (some (.Name x pos')) pos.line X.env = pure false := by rfl) (hf : X.fn x = true ∨ X.env.scope.names.lookup x = some .local := by first | exact .inl rfl | exact .inr rfl | assumption) :
    PS X (.Assign [.Name x pos'] e pos) (tAsg te (gName i)) := by
  intro pins s σ H D I h
  refine wpAny_Assign_Name (thn (he pins s σ H _ I h) fun v s1 ⟨y, H1, I1, r1, q1⟩ => ?_) hs
  exact store_ok I1 hN hi hx r1 (fun s2 I2 => ⟨_, H1, I2, q1⟩) hf
def tAug (i : Nat) (te : TE) (ti : TIp) : TS := fun D σ H => ∃ x, σ[i]? = some (some x) ∧ te σ H fun y H1 => ti x y H1 fun z H2 => D.nx (σ.set i (some z)) H2
theorem ps_aug {i : Nat} {x : Str} {e : Expr} {te : TE} {op : Operator} {ti : TIp} {pos' : Pos} (hN : X.N.Nodup) (hi : X.N[i]? = some x) (hx : Loc X.env.scope x) (he : PE X e te) (ho : PIp X op ti) (hf : X.fn x = true ∨ X.env.scope.names.lookup x = some .local := by first | exact .inl rfl | exact .inr rfl | assumption) :
    PS X (.AugAssign (.Name x pos') op e pos) (tAug i te ti) := by
  intro pins s σ H D I h
  obtain ⟨v, e1, h⟩ := h
  obtain ⟨m, hn, hl⟩ := I.loc
  have vis : Vis X.env.scope x := by rcases hx with k | k; exact .inl k; exact .inr (.inl k)
  obtain ⟨u, r, l⟩ := hl i x v hi e1 vis
  refine wpAny_AugAssign_Name ?_
  have go : wpAny (model X.prog X.w) X.A (eval e X.env) (fun w s₂ => wpAny (model X.prog X.w) X.A (inplaceOp op u w) (fun r s₃ => wpAny (model X.prog X.w) X.A (storeName X.env x r) (fun _ => SP X pins D .next) X.xe s₃) X.xe s₂) X.xe s := by
    refine thn (he pins s σ H _ I h) fun w s1 ⟨y, H1, I1, r1, q1⟩ => ?_
    refine thn (ho pins s1 σ H1 v y u w _ I1 r r1 q1) fun z s2 ⟨zv, H2, I2, r2, q2⟩ => ?_
    exact store_ok I2 hN hi hx r2 (fun s3 I3 => ⟨_, H2, I3, q2⟩) hf
  rcases l with ⟨hk, hm⟩ | ⟨hk, c, hc, hcell⟩
  · exact wpAny_loadName_local I.ok.kind hk hn hm go
  · rcases hk with hk | hk
    · exact wpAny_loadName_cell I.ok.kind hk hc hcell go
    · rcases hx with k | k
      · have : X.env.scope.names.lookup x = some .free := hk
        rw [k] at this; cases this
      · have : X.env.scope.names.lookup x = some .free := hk
        rw [k] at this; cases this
end
section
variable {X : Cx} {pos : Pos}
def tWhile (c : TT) (tb : TS) : TS := fun D σ H => ∃ W : Nat → St → Hp → Prop, (∃ m, W m σ H) ∧ ∀ m σ H, W m σ H →
  c σ H fun b H1 => if b = true then ∃ N : St → Hp → Prop, (∀ σ' H', N σ' H' → ∃ m', m' < m ∧ W m' σ' H') ∧ tb { D with nx := N, ct := N, bk := D.nx } σ H1 else D.nx σ H1
theorem ps_while {c : Expr} {body : List Stmt} {tc : TT} {tb : TS} (hp : PassesOwn (model X.prog X.w) X.A X.env X.xe) (hc : PT X c tc) (hb : PSs X body tb) : PS X (.While c body [] pos) (tWhile tc tb) := by
  intro pins s σ H D I h
  obtain ⟨W, ⟨m0, w0⟩, turn⟩ := h
  refine wpAny_While (codeAny_whileLoop (fun n s' => ∃ σ' H', Inv X pins σ' H' s' ∧ W n σ' H') ?_ m0 ⟨σ, H, I, w0⟩)
  rintro n s1 ⟨σ1, H1, I1, w1⟩
  refine wpAny_passesOwn hp (thn (hc pins s1 σ1 H1 _ I1 (turn n σ1 H1 w1)) fun b s2 ⟨H2, I2, q2⟩ => ?_)
  cases b with
  | true =>
    obtain ⟨N, hN, q2⟩ := q2
    rw [if_pos rfl]
    refine wpAny_passesOwn hp (thn (hb pins s2 σ1 H2 _ I2 q2) fun f s3 q3 => ?_)
    cases f with
    | next =>
      obtain ⟨σ3, H3, I3, n3⟩ := q3
      obtain ⟨m', hm, w3⟩ := hN σ3 H3 n3
      exact ⟨m', hm, σ3, H3, I3, w3⟩
    | cont =>
      obtain ⟨σ3, H3, I3, n3⟩ := q3
      obtain ⟨m', hm, w3⟩ := hN σ3 H3 n3
      exact ⟨m', hm, σ3, H3, I3, w3⟩
    | brk => exact q3
    | ret v => exact q3
  | false =>
    rw [if_neg Bool.false_ne_true]
    exact wpAny_execs_nil ⟨σ1, H2, I2, q2⟩
end
structure It where
  go : Nat → Hp → Prop
  yld : Nat → Hp → V → Hp → Prop
  stop : Nat → Hp → Prop
def FpOk (X : Cx) (pins : List (Addr × Obj)) (H : Hp) (b : Addr) : Prop :=
  H b = none ∧ b ≠ X.env.locals ∧ b ∉ X.fs ∧ (b ∈ X.ex ∨ X.s_0.heap.objs.size ≤ b) ∧ (∀ x c, X.env.cells.lookup x = some c → c ≠ b) ∧ ∀ p ∈ X.pn ++ pins, p.1 ≠ b
theorem Inv.fpOk {X : Cx} {pins : List (Addr × Obj)} {σ : St} {H H' : Hp} {s : Shared} {b : Addr} (I : Inv X pins σ H s) (hb : s.heap.objs.size ≤ b) (hn : H' b = none) : FpOk X pins H' b := by
  refine ⟨hn, Nat.ne_of_gt (Nat.lt_of_lt_of_le I.lt hb), I.nofs hb, .inr (Nat.le_trans I.sz hb), fun x c e z => ?_, fun p hp z => ?_⟩
  · obtain ⟨v, q⟩ := I.cell x c e
    exact absurd (Nat.lt_of_lt_of_le q.lt (by rw [z]; exact hb)) (Nat.lt_irrefl _)
  · exact absurd (Nat.lt_of_lt_of_le (Heap.lt_size (I.pin p hp).1) (by rw [z]; exact hb)) (Nat.lt_irrefl _)
structure Turn (P : Program) (w : World) (K : PySem.W.Frag) (tg : Expr) (J : It) (fp : List Addr) (it : Addr) (tn : Nat → Heap → Prop) : Prop where
  mem : it ∈ fp
  obj : ∀ i h, tn i h → ∀ b ∈ fp, ∃ o, h.get? b = some o ∧ ∀ v, o.data ≠ .cell v
  keep : ∀ i h h', tn i h → (∀ b ∈ fp, ∀ o, h.get? b = some o → h'.get? b = some o) → tn i h'
  item : ∀ (X : Cx), X.prog = P → X.w = w → X.K = K → X.calm = true → ∀ (i : Nat) (pins : List (Addr × Obj)) (s : Shared) (σ : St) (H : Hp) (E : Value → Shared → Prop), Inv X pins σ H s → (∀ b ∈ fp, FpOk X pins H b) → tn i s.heap → J.go i H →
    wpAny (model P w) X.A (pyNext (.ref it)) (fun r s1 => ∃ u, r = some u ∧
      wpAny (model P w) X.A (letOwnedTupleGo tg (.ref it) u) (fun _ s2 => ∃ x H', Inv X pins σ H' s2 ∧ RelV x u ∧ J.yld i H x H' ∧ tn (i + 1) s2.heap ∧ ∀ b ∈ fp, H' b = none) E s1) E s
  done : ∀ (X : Cx), X.prog = P → X.w = w → X.K = K → X.calm = true → ∀ (i : Nat) (pins : List (Addr × Obj)) (s : Shared) (σ : St) (H : Hp) (E : Value → Shared → Prop), Inv X pins σ H s → (∀ b ∈ fp, FpOk X pins H b) → tn i s.heap → J.stop i H →
    wpAny (model P w) X.A (pyNext (.ref it)) (fun r s1 => r = none ∧ Inv X pins σ H s1) E s
  self : ∀ (A : Around) (i : Nat) (s : Shared) (Q : Value → Shared → Prop) (E : Value → Shared → Prop), tn i s.heap → Q (.ref it) s → wpAny (model P w) A (pyIter (.ref it)) Q E s
abbrev TI := St → Hp → (It → Hp → Prop) → Prop
def PIE (X : Cx) (pins : List (Addr × Obj)) (σ : St) (tg : Expr) (R : It → Hp → Prop) (itv : Value) (s2 : Shared) : Prop :=
  ∃ (it : Addr) (fp : List Addr) (tn : Nat → Heap → Prop) (J : It) (H' : Hp), itv = .ref it ∧ Inv X pins σ H' s2 ∧ Turn X.prog X.w X.K tg J fp it tn ∧ tn 0 s2.heap ∧ (∀ b ∈ fp, FpOk X pins H' b) ∧ R J H'
def PI (X : Cx) (tg iter : Expr) (wi : TI) : Prop :=
  ∀ (pins : List (Addr × Obj)) (s : Shared) (σ : St) (H : Hp) (R : It → Hp → Prop), Inv X pins σ H s → wi σ H R →
    wpAny (model X.prog X.w) X.A (eval iter X.env) (fun v s1 => wpAny (model X.prog X.w) X.A (pyIter v) (PIE X pins σ tg R) X.xe s1) X.xe s
theorem go_of {M : Model} {A : Around} {E : Value → Shared → Prop} {s : Shared} {tg : Expr} {it : Addr} {u : Value} {o : Obj} {n : String} {vs : Array Value} {Q : Unit → Shared → Prop} (ho : s.heap.get? it = some o) (hc : o.cls = .type n) (hd : o.data = .fields vs)
    (hn : ["enumerate", "zip", "dict_itemiterator", "dict_reverseitemiterator", "odict_iterator", "itertools.zip_longest", "itertools.pairwise"].contains n = false) (hQ : Q () s) : wpAny M A (letOwnedTupleGo tg (.ref it) u) Q E s := by
  unfold letOwnedTupleGo
  cases tg <;> first
    | exact wpAny_pure hQ
    | (cases u <;> first
        | exact wpAny_pure hQ
        | (refine wpAny_bind (wpAny_load ho ?_)
           rw [hc, hd]
           show wpAny M A (if (["enumerate", "zip", "dict_itemiterator", "dict_reverseitemiterator", "odict_iterator", "itertools.zip_longest", "itertools.pairwise"].contains n && vs[0]? == some (rawInt _)) = true then _ else _) Q E s
           rw [if_neg (by intro h; rw [hn, Bool.false_and] at h; cases h)]
           exact wpAny_pure hQ))
def Itl (K : PySem.W.Frag) (a : Addr) : It :=
  ⟨fun i H => ∃ xs x, SqL K H a xs ∧ xs[i]? = some x, fun i H x H' => H' = H ∧ ∀ xs, SqL K H a xs → xs[i]? = some x, fun i H => ∃ xs, SqL K H a xs ∧ xs.length ≤ i⟩
def Itr (lo : Int) (n : Nat) : It := ⟨fun i _ => i < n, fun i H x H' => H' = H ∧ x = .int (lo + i), fun i _ => n ≤ i⟩
theorem turn_list {P : Program} {w : World} {K : PySem.W.Frag} {tg : Expr} (a it : Addr) : Turn P w K tg (Itl K a) [it] it (fun i h => h.IsListIter it a i) where
  mem := by simp
  obj := fun i h st b hb => by
    have e : b = it := by simpa using hb
    subst e
    obtain ⟨o, e, c, d⟩ := st
    exact ⟨o, e, fun v z => by rw [d] at z; cases z⟩
  keep := fun i h h' st k => st.at fun o e => k it (by simp) o e
  item := by
    intro X hP hw hK hc i pins s σ H E I hf st hg
    subst hP hw hK
    obtain ⟨xs, x, hq, hx⟩ := hg
    obtain ⟨its, rv, p, hz⟩ := I.list hq
    obtain ⟨u, hu, ru⟩ := rv.get hx
    obtain ⟨f0, f1, f2, f3, f4, f5⟩ := hf it (by simp)
    refine wpAny_pyNext_list_item st p.isList (x := u) (by simpa using hu) fun h' st' sb => ?_
    have I1 : Inv X pins σ H { s with heap := h' } := I.turned (t' := s.toks) (fun b o hb e => (sb.2 b hb).trans e) f0 f1 f3 f4 f5
    obtain ⟨o, e, c, d⟩ := id st'
    exact ⟨u, rfl, go_of (s := { s with heap := h' }) e c d (by decide) ⟨x, H, I1, ru, ⟨rfl, fun ys hy => by rw [I.list_inj hy hq]; exact hx⟩, st', fun b hb => (hf b hb).1⟩⟩
  done := by
    intro X hP hw hK hc i pins s σ H E I hf st hg
    subst hP hw hK
    obtain ⟨xs, hq, hx⟩ := hg
    obtain ⟨its, rv, p, hz⟩ := I.list hq
    obtain ⟨f0, f1, f2, f3, f4, f5⟩ := hf it (by simp)
    have hl := rv.length
    exact wpAny_pyNext_list_end (I.ok.hd hc) st p.isList (by simp; omega) fun h' eb => ⟨rfl, I.turned (t' := s.toks) (fun b o hb e => eb b o hb e) f0 f1 f3 f4 f5⟩
  self := fun _ _ _ _ _ st h => wpAny_pyIter_listiter st h
theorem turn_range {P : Program} {w : World} {K : PySem.W.Frag} {tg : Expr} (it : Addr) (lo : Int) (n : Nat) : Turn P w K tg (Itr lo n) [it] it (fun i h => IsRangeIter h it (lo + (i : Nat) * 1) ((n : Int) - (i : Nat)) 1) where
  mem := by simp
  obj := fun i h st b hb => by
    have e : b = it := by simpa using hb
    subst e
    exact ⟨_, st, fun v z => by
      have z' : Data.fields _ = Data.cell v := z
      cases z'⟩
  keep := fun i h h' st k => k it (by simp) _ st
  item := by
    intro X hP hw hK hc i pins s σ H E I hf st hg
    subst hP hw hK
    obtain ⟨f0, f1, f2, f3, f4, f5⟩ := hf it (by simp)
    have W := Walks.range (prog := X.prog) (w := X.w) (I.ok.hd hc) it lo 1 n
    refine W.item i s _ _ hg st fun v h' tk hv st' kk => ?_
    obtain ⟨t, rfl⟩ := hv
    have I1 : Inv X pins σ H { s with heap := h', toks := tk } := I.turned (fun b o hb e => kk b o (by simpa using hb) e) f0 f1 f3 f4 f5
    refine ⟨_, rfl, go_of (s := { s with heap := h', toks := tk }) (n := "range_iterator") st' rfl rfl (by decide) ⟨.int (lo + i), H, I1, ⟨t, ?_⟩, ⟨rfl, rfl⟩, st', fun b hb => (hf b hb).1⟩⟩
    rw [Int.mul_one]
  done := by
    intro X hP hw hK hc i pins s σ H E I hf st hg
    subst hP hw hK
    obtain ⟨f0, f1, f2, f3, f4, f5⟩ := hf it (by simp)
    exact wpAny_pyNext_range_end (I.ok.hd hc) st (by have : n ≤ i := hg; omega) fun h' eb => ⟨rfl, I.turned (t' := s.toks) (fun b o hb e => eb b o hb e) f0 f1 f3 f4 f5⟩
  self := fun _ _ _ _ _ st h => wpAny_pyIter_rangeiter st h
end L2
namespace L2
open PySem PySem.Spec PyProof.Rows
section
variable {X : Cx} {tg : Expr}
def iList (K : PySem.W.Frag) (tl : TE) : TI := fun σ H R => tl σ H fun x H1 => ∃ a, x = .ref a ∧ (∃ xs, SqL K H1 a xs) ∧ R (Itl K a) H1
theorem pi_list {l : Expr} {tl : TE} (hl : PE X l tl) : PI X tg l (iList X.K tl) := by
  intro pins s σ H R I h
  refine thn (hl pins s σ H _ I h) fun v s1 ⟨x, H1, I1, r1, q1⟩ => ?_
  obtain ⟨a, e, ⟨xs, hq⟩, q⟩ := q1
  subst e
  cases r1
  obtain ⟨its, rv, p, hz⟩ := I1.list hq
  refine wpAny_pyIter_list p.isList ?_
  refine ⟨s1.heap.objs.size, [s1.heap.objs.size], _, _, H1, rfl, I1.kept (t' := s1.toks) fun b o e => Heap.get?_push_of_some _ e, turn_list a _, ⟨_, Heap.get?_push_size _ rfl, rfl, rfl⟩, fun b hb => ?_, q⟩
  have e : b = s1.heap.objs.size := by simpa using hb
  subst e
  exact I1.fpOk (Nat.le_refl _) (I1.hok.fresh (Nat.le_refl _))
theorem range_it {pins : List (Addr × Obj)} {σ : St} {H : Hp} {s : Shared} {R : It → Hp → Prop} {E : Value → Shared → Prop} {lo hi : Int} {t u v : Tok} {tk : Nat} (I : Inv X pins σ H s) (h1 : -(2 ^ 62) ≤ lo) (h2 : lo < 2 ^ 62) (h3 : -(2 ^ 62) ≤ hi) (h4 : hi < 2 ^ 62)
    (q : R (Itr lo (hi - lo).toNat) H) : wpAny (model X.prog X.w) X.A (pyIter (.ref s.heap.objs.size)) (PIE X pins σ tg R) E { s with heap := s.heap.push { cls := .type "range", data := .fields #[.int lo t, .int hi u, .int 1 v] }, toks := tk } := by
  refine wpAny_pyIter_range (IsRange.new ..) (small_one h1 h2 h3 h4) ?_
  have I1 : Inv X pins σ H { s with heap := s.heap.push { cls := .type "range", data := .fields #[.int lo t, .int hi u, .int 1 v] }, toks := tk } := I.kept fun b o e => Heap.get?_push_of_some _ e
  refine ⟨(s.heap.push { cls := .type "range", data := .fields #[.int lo t, .int hi u, .int 1 v] }).objs.size, [(s.heap.push { cls := .type "range", data := .fields #[.int lo t, .int hi u, .int 1 v] }).objs.size], _, _, H, rfl,
    I1.kept (t' := tk) fun b o e => Heap.get?_push_of_some _ e, turn_range _ lo (hi - lo).toNat, ?_, fun b hb => ?_, q⟩
  · have e1 : lo + ((0 : Nat) : Int) * 1 = lo := by simp
    have e2 : (((hi - lo).toNat : Nat) : Int) - ((0 : Nat) : Int) = Builtin.Range.rangeSize lo hi 1 := by rw [rangeSize_one]; split <;> omega
    show IsRangeIter _ _ (lo + ((0 : Nat) : Int) * 1) ((((hi - lo).toNat : Nat) : Int) - ((0 : Nat) : Int)) 1
    rw [e1, e2]
    exact Heap.get?_push_size _ rfl
  · have e : b = (s.heap.push { cls := .type "range", data := .fields #[.int lo t, .int hi u, .int 1 v] }).objs.size := by simpa using hb
    subst e
    exact I1.fpOk (Nat.le_refl _) (I1.hok.fresh (Nat.le_refl _))
def iRng1 (ta : TA) : TI := fun σ H R => ta σ H fun vs H1 => ∃ j : Int, vs = [.int j] ∧ -(2 ^ 62) ≤ j ∧ j < 2 ^ 62 ∧ R (Itr 0 j.toNat) H1
theorem pi_range1 {a : Expr} {ta : TA} {p pos : Pos} (hg : Gl X "range") (hm : X.mg "range" = none) (ha : PA X [a] ta) (hs : starEach [a] X.env = [(false, eval a X.env)] := by rfl) : PI X tg (.Call (.Name "range" p) [a] [] pos) (iRng1 ta) := by
  intro pins s σ H R I h
  refine Call_ (ld_blt I hg hm boot_range (PyProof.Rows.callWith_type1 (thn (ha pos pins s σ H _ I h) fun us s1 ⟨vs, H1, I1, r1, q1⟩ => ?_) hs rfl))
  obtain ⟨j, e, q1, q2, q⟩ := q1
  subst e
  cases r1 with
  | cons r rr =>
    cases rr
    obtain ⟨t, rfl⟩ := r
    exact call_range_1 (range_it I1 (by omega) (by omega) q1 q2 (by simpa using q))
def tFor (wi : TI) (g : TG) (tb : TS) : TS := fun D σ H => wi σ H fun J H1 => ∃ W : Nat → Nat → St → Hp → Prop, (∃ m, W 0 m σ H1) ∧ ∀ i m σ H, W i m σ H →
  (J.stop i H ∧ D.nx σ H) ∨ (J.go i H ∧ ∃ N : St → Hp → Prop, (∀ σ' H', N σ' H' → ∃ m', m' < m ∧ W (i + 1) m' σ' H') ∧ ∀ x H', J.yld i H x H' → g x σ H' fun σ2 H2 => tb { D with nx := N, ct := N, bk := D.nx } σ2 H2)
def pinsAt (fp : List Addr) (h : Heap) : List (Addr × Obj) := fp.filterMap fun b => (h.get? b).map fun o => (b, o)
theorem mem_pinsAt {fp : List Addr} {h : Heap} {b : Addr} {o : Obj} (hb : b ∈ fp) (e : h.get? b = some o) : (b, o) ∈ pinsAt fp h := List.mem_filterMap.mpr ⟨b, hb, by rw [e]; rfl⟩
theorem of_pinsAt {fp : List Addr} {h : Heap} {p : Addr × Obj} (hp : p ∈ pinsAt fp h) : p.1 ∈ fp ∧ h.get? p.1 = some p.2 := by
  obtain ⟨b, hb, e⟩ := List.mem_filterMap.mp hp
  cases q : h.get? b with
  | none => rw [q] at e; cases e
  | some o =>
    rw [q] at e
    have e' : (b, o) = p := Option.some.inj e
    subst e'
    exact ⟨hb, q⟩
theorem Inv.pinned {pins : List (Addr × Obj)} {σ : St} {H : Hp} {s : Shared} {fp : List Addr} (I : Inv X pins σ H s) (hf : ∀ b ∈ fp, FpOk X pins H b) (ho : ∀ b ∈ fp, ∃ o, s.heap.get? b = some o ∧ ∀ v, o.data ≠ .cell v) : Inv X (pins ++ pinsAt fp s.heap) σ H s :=
  I.pins_of fun p hp => (List.mem_append.mp hp).elim (fun z => I.pin p (List.mem_append_right _ z)) fun z => by
    obtain ⟨hb, e⟩ := of_pinsAt z
    obtain ⟨f0, f1, f2, _⟩ := hf p.1 hb
    obtain ⟨o, e', d⟩ := ho p.1 hb
    rw [e] at e'; cases e'
    exact ⟨e, f0, f1, f2, d⟩
theorem Inv.unpinned {pins pl : List (Addr × Obj)} {σ : St} {H : Hp} {s : Shared} (I : Inv X (pins ++ pl) σ H s) : Inv X pins σ H s := I.pins_of fun p hp => I.pin p (List.mem_append_right _ (List.mem_append_left _ hp))
theorem ps_for {iter : Expr} {body : List Stmt} {wi : TI} {g : TG} {tb : TS} {pos : Pos} (hp : PassesOwn (model X.prog X.w) X.A X.env X.xe) (hc : X.calm = true) (hi : PI X tg iter wi) (hg : PG X tg g) (hb : PSs X body tb)
    (hs : ∀ x, foldedSetIterable iter X.env x = pure x := by intro _; rfl) : PS X (.For tg iter body [] pos) (tFor wi g tb) := by
  intro pins s σ H D I h
  refine wpAny_For (thn (hi pins s σ H _ I h) fun v s1 h1 => thn h1 fun itv s2 h2 => ?_) hs
  obtain ⟨it, fp, tn, J, H2, e, I2, T, st2, f2, W, ⟨m0, w0⟩, turn⟩ := h2
  subst e
  -- what stays true of the iterator's objects through the loop
  have stat : ∀ {H' : Hp}, (∀ b ∈ fp, H' b = none) → ∀ b ∈ fp, FpOk X pins H' b := fun hn b hb => ⟨hn b hb, (f2 b hb).2⟩
  refine codeAny_forLoop_any (fun n s' => ∃ i σ' H', Inv X pins σ' H' s' ∧ tn i s'.heap ∧ (∀ b ∈ fp, H' b = none) ∧ W i n σ' H') ?_ m0 ⟨0, σ, H2, I2, st2, fun b hb => (f2 b hb).1, w0⟩
  rintro n s3 ⟨i, σ3, H3, I3, st3, fr3, w3⟩
  rcases turn i n σ3 H3 w3 with ⟨stop, qn⟩ | ⟨go, N, hN, step⟩
  · refine wpAny_passesOwn hp (thn (T.done X rfl rfl rfl hc i pins s3 σ3 H3 X.xe I3 (stat fr3) st3 stop) fun r s4 ⟨hr, I4⟩ => ?_)
    subst hr
    exact wpAny_execs_nil ⟨σ3, H3, I4, qn⟩
  · refine wpAny_passesOwn hp (thn (T.item X rfl rfl rfl hc i pins s3 σ3 H3 X.xe I3 (stat fr3) st3 go) fun r s4 ⟨u, hr, h4⟩ => ?_)
    subst hr
    refine wpAny_passesOwn hp (thn h4 fun _ s5 ⟨x, H5, I5, r5, y5, st5, fr5⟩ => ?_)
    have I5' := I5.pinned (stat fr5) (T.obj _ _ st5)
    refine wpAny_passesOwn hp (thn (hg _ s5 σ3 H5 x u _ I5' r5 (step x H5 y5)) fun _ s6 ⟨σ6, H6, I6, q6⟩ => ?_)
    refine wpAny_passesOwn hp (thn (hb _ s6 σ6 H6 _ I6 q6) fun f s7 q7 => ?_)
    have again : ∀ {σ7 : St} {H7 : Hp}, Inv X (pins ++ pinsAt fp s5.heap) σ7 H7 s7 → N σ7 H7 → ∃ m, m < n ∧ ∃ i σ' H', Inv X pins σ' H' s7 ∧ tn i s7.heap ∧ (∀ b ∈ fp, H' b = none) ∧ W i m σ' H' := fun {σ7 H7} I7 n7 => by
      obtain ⟨m', hm, w7⟩ := hN σ7 H7 n7
      refine ⟨m', hm, i + 1, σ7, H7, I7.unpinned, T.keep _ _ _ st5 fun b hb o e => (I7.pin (b, o) (List.mem_append_right _ (List.mem_append_right _ (mem_pinsAt hb e)))).1, fun b hb => ?_, w7⟩
      obtain ⟨o, e, d⟩ := T.obj _ _ st5 b hb
      exact (I7.pin (b, o) (List.mem_append_right _ (List.mem_append_right _ (mem_pinsAt hb e)))).2.1
    cases f with
    | next => obtain ⟨σ7, H7, I7, n7⟩ := q7; exact again I7 n7
    | cont => obtain ⟨σ7, H7, I7, n7⟩ := q7; exact again I7 n7
    | brk => obtain ⟨σ7, H7, I7, q7⟩ := q7; exact ⟨σ7, H7, I7.unpinned, q7⟩
    | ret v => obtain ⟨x7, σ7, H7, I7, r7, q7⟩ := q7; exact ⟨x7, σ7, H7, I7.unpinned, r7, q7⟩
end
theorem for_range {lo : Int} {n : Nat} {g : TG} {tb : TS} {D : Ends} {σ : St} {H : Hp} (Pv : Nat → St → Hp → Prop) (h0 : Pv 0 σ H)
    (hs : ∀ i σ H, i < n → Pv i σ H → g (.int (lo + i)) σ H fun σ2 H2 => tb { D with nx := Pv (i + 1), ct := Pv (i + 1), bk := D.nx } σ2 H2) (hd : ∀ σ H, Pv n σ H → D.nx σ H) :
    ∃ W : Nat → Nat → St → Hp → Prop, (∃ m, W 0 m σ H) ∧ ∀ i m σ H, W i m σ H →
      ((Itr lo n).stop i H ∧ D.nx σ H) ∨ ((Itr lo n).go i H ∧ ∃ N : St → Hp → Prop, (∀ σ' H', N σ' H' → ∃ m', m' < m ∧ W (i + 1) m' σ' H') ∧ ∀ x H', (Itr lo n).yld i H x H' → g x σ H' fun σ2 H2 => tb { D with nx := N, ct := N, bk := D.nx } σ2 H2) := by
  refine ⟨fun i m σ H => m = n - i ∧ i ≤ n ∧ Pv i σ H, ⟨n, by simp, Nat.zero_le _, h0⟩, ?_⟩
  rintro i m σ H ⟨rfl, hi, p⟩
  by_cases hlt : i < n
  · refine .inr ⟨hlt, Pv (i + 1), fun σ' H' p' => ⟨n - (i + 1), by omega, rfl, hlt, p'⟩, fun x H' y => ?_⟩
    obtain ⟨e, y⟩ := y
    subst e y
    exact hs i σ _ hlt p
  · have e : i = n := by omega
    subst e
    exact .inl ⟨Nat.le_refl _, hd σ H p⟩
end L2
namespace L2
open PySem PySem.Spec PyProof.Rows
abbrev R2 := V → V → Hp → VK → Prop
def OpR (X : Cx) (f : Value → Value → Sem Value) (r : R2) : Prop :=
  ∀ (pins : List (Addr × Obj)) (s : Shared) (σ : St) (H : Hp) (x y : V) (v u : Value) (Q : VK), Inv X pins σ H s → RelV x v → RelV y u → r x y H Q →
    wpAny (model X.prog X.w) X.A (f v u) (EP X pins σ Q) X.xe s
def UnR (X : Cx) (f : Value → Sem Value) (r : V → Hp → VK → Prop) : Prop :=
  ∀ (pins : List (Addr × Obj)) (s : Shared) (σ : St) (H : Hp) (x : V) (v : Value) (Q : VK), Inv X pins σ H s → RelV x v → r x H Q →
    wpAny (model X.prog X.w) X.A (f v) (EP X pins σ Q) X.xe s
def CallR (X : Cx) (f : Value) (r : List V → Hp → VK → Prop) : Prop :=
  ∀ (pins : List (Addr × Obj)) (s : Shared) (σ : St) (H : Hp) (xs : List V) (us : List Value) (Q : VK), Inv X pins σ H s → Vals xs us → r xs H Q →
    wpAny (model X.prog X.w) X.A (call f us) (EP X pins σ Q) X.xe s
def tOp (r : R2) (ta tb : TE) : TE := fun σ H Q => ta σ H fun x H1 => tb σ H1 fun y H2 => r x y H2 Q
def tUn (r : V → Hp → VK → Prop) (ta : TE) : TE := fun σ H Q => ta σ H fun x H1 => r x H1 Q
def rI (C : Int → Int → Prop) (g : Int → Int → V) : R2 := fun x y H Q => ∃ i j, x = .int i ∧ y = .int j ∧ C i j ∧ Q (g i j) H
def rI0 (g : Int → Int → V) : R2 := fun x y H Q => ∃ i j, x = .int i ∧ y = .int j ∧ Q (g i j) H
def rU (g : Int → V) : V → Hp → VK → Prop := fun x H Q => ∃ i, x = .int i ∧ Q (g i) H
section
variable {X : Cx} {a b c : Expr} {ta tb tc : TE} {pos : Pos}
theorem binT (ha : PE X a ta) (hb : PE X b tb) {pins : List (Addr × Obj)} {s : Shared} {σ : St} {H : Hp} {R : V → V → Hp → Prop} (I : Inv X pins σ H s)
    (h : ta σ H fun x H1 => tb σ H1 fun y H2 => R x y H2) {Q : Value → Shared → Prop} {f : Value → Value → Sem Value}
    (hf : ∀ v u s2 x y H2, Inv X pins σ H2 s2 → RelV x v → RelV y u → R x y H2 → wpAny (model X.prog X.w) X.A (f v u) Q X.xe s2) :
    wpAny (model X.prog X.w) X.A (eval a X.env) (fun v s₁ => wpAny (model X.prog X.w) X.A (eval b X.env) (fun u s₂ => wpAny (model X.prog X.w) X.A (f v u) Q X.xe s₂) X.xe s₁) X.xe s := by
  refine thn (ha pins s σ H _ I h) fun v s1 ⟨x, H1, I1, r1, q1⟩ => ?_
  refine thn (hb pins s1 σ H1 _ I1 q1) fun u s2 ⟨y, H2, I2, r2, q2⟩ => ?_
  exact hf v u s2 x y H2 I2 r1 r2 q2
theorem pe_op {op : Operator} {r : R2} (ho : OpR X (binaryOp op) r) (ha : PE X a ta) (hb : PE X b tb) : PE X (.BinOp a op b pos) (tOp r ta tb) := by
  intro pins s σ H Q I h
  exact wpAny_BinOp (binT ha hb I h fun v u s2 x y H2 I2 rx ry q => ho pins s2 σ H2 x y v u Q I2 rx ry q)
theorem pe_un {op : UnaryOp} {r : V → Hp → VK → Prop} (ho : UnR X (unaryOp op) r) (ha : PE X a ta) : PE X (.UnaryOp op a pos) (tUn r ta) := by
  intro pins s σ H Q I h
  exact UnaryOp_ (thn (ha pins s σ H _ I h) fun v s1 ⟨x, H1, I1, r1, q1⟩ => ho pins s1 σ H1 x v Q I1 r1 q1)
theorem opI {f : Value → Value → Sem Value} {C : Int → Int → Prop} {g : Int → Int → Int}
    (rule : ∀ (i j : Int) (t u : Tok) (s : Shared) (Q : Value → Shared → Prop) (E : Value → Shared → Prop), C i j → Q (.int (g i j) s.toks) { s with toks := s.toks + 1 } → wpAny (model X.prog X.w) X.A (f (.int i t) (.int j u)) Q E s) :
    OpR X f (rI C fun i j => .int (g i j)) := by
  intro pins s σ H x y v u Q I rx ry h
  obtain ⟨i, j, rfl, rfl, hc, q⟩ := h
  obtain ⟨t, rfl⟩ := rx
  obtain ⟨t', rfl⟩ := ry
  exact rule i j t t' s _ _ hc ⟨.int (g i j), H, I.tok _, ⟨_, rfl⟩, q⟩
theorem opI0 {f : Value → Value → Sem Value} {g : Int → Int → Int}
    (rule : ∀ (i j : Int) (t u : Tok) (s : Shared) (Q : Value → Shared → Prop) (E : Value → Shared → Prop), Q (.int (g i j) s.toks) { s with toks := s.toks + 1 } → wpAny (model X.prog X.w) X.A (f (.int i t) (.int j u)) Q E s) :
    OpR X f (rI0 fun i j => .int (g i j)) := by
  intro pins s σ H x y v u Q I rx ry h
  obtain ⟨i, j, rfl, rfl, q⟩ := h
  obtain ⟨t, rfl⟩ := rx
  obtain ⟨t', rfl⟩ := ry
  exact rule i j t t' s _ _ ⟨.int (g i j), H, I.tok _, ⟨_, rfl⟩, q⟩
theorem opB0 {f : Value → Value → Sem Value} {g : Int → Int → Bool}
    (rule : ∀ (i j : Int) (t u : Tok) (s : Shared) (Q : Value → Shared → Prop) (E : Value → Shared → Prop), Q (.bool (g i j)) s → wpAny (model X.prog X.w) X.A (f (.int i t) (.int j u)) Q E s) :
    OpR X f (rI0 fun i j => .bl (g i j)) := by
  intro pins s σ H x y v u Q I rx ry h
  obtain ⟨i, j, rfl, rfl, q⟩ := h
  obtain ⟨t, rfl⟩ := rx
  obtain ⟨t', rfl⟩ := ry
  exact rule i j t t' s _ _ ⟨.bl (g i j), H, I, rfl, q⟩
def CDiv (i j : Int) : Prop := 0 < j ∧ j < 1073741824
def CMul (i j : Int) : Prop := (-(2 ^ 64) < i ∧ i < 2 ^ 64) ∨ (-(2 ^ 64) < j ∧ j < 2 ^ 64)
theorem CMul.ok {i j : Int} (h : CMul i j) : IntMulOk i j := by
  rcases h with ⟨h1, h2⟩ | ⟨h1, h2⟩
  · exact .of_left (intBits_le_64 h1 h2)
  · exact .of_right (intBits_le_64 h1 h2)
theorem op_add : OpR X (binaryOp .Add) (rI0 fun i j => .int (i + j)) := opI0 fun _ _ _ _ _ _ _ q => add_int q
theorem op_sub : OpR X (binaryOp .Sub) (rI0 fun i j => .int (i - j)) := opI0 fun _ _ _ _ _ _ _ q => sub_int q
theorem op_mul : OpR X (binaryOp .Mult) (rI CMul fun i j => .int (i * j)) := opI fun _ _ _ _ _ _ _ hc q => mul_int q hc.ok
theorem op_fdiv : OpR X (binaryOp .FloorDiv) (rI CDiv fun i j => .int (i / j)) := opI fun i j _ _ _ _ _ hc q => by
  have h1 : (0 : Int) < j := hc.1
  have h2 : j < 1073741824 := hc.2
  exact floordiv_int (by omega) (by rw [Int.fdiv_eq_ediv_of_nonneg i (by omega)]; exact q) (.inl (PyProof.noPylong_small (by omega)))
theorem iop_mul : OpR X (inplaceOp .Mult) (rI CMul fun i j => .int (i * j)) := opI fun _ _ _ _ _ _ _ hc q => imul_int q hc.ok
theorem unI {f : Value → Sem Value} {g : Int → Int}
    (rule : ∀ (i : Int) (t : Tok) (s : Shared) (Q : Value → Shared → Prop) (E : Value → Shared → Prop), Q (.int (g i) s.toks) { s with toks := s.toks + 1 } → wpAny (model X.prog X.w) X.A (f (.int i t)) Q E s) :
    UnR X f (rU fun i => .int (g i)) := by
  intro pins s σ H x v Q I rx h
  obtain ⟨i, rfl, q⟩ := h
  obtain ⟨t, rfl⟩ := rx
  exact rule i t s _ _ ⟨.int (g i), H, I.tok _, ⟨_, rfl⟩, q⟩
theorem un_neg : UnR X (unaryOp .USub) (rU fun i => .int (-i)) := unI fun _ _ _ _ _ q => neg_int q
end
def scal : V → V → Bool
  | .non, .non => true | .non, .int _ => true | .int _, .non => true | .non, .bl _ => true | .bl _, .non => true | .non, .str _ => true | .str _, .non => true
  | .int _, .int _ => true | .bl _, .bl _ => true | .str _, .str _ => true | .byt _, .byt _ => true
  | .int _, .str _ => true | .str _, .int _ => true | .bl _, .str _ => true | .str _, .bl _ => true
  | _, _ => false
def rEq : R2 := fun x y H Q => scal x y = true ∧ Q (.bl (decide (x = y))) H
def rNe : R2 := fun x y H Q => scal x y = true ∧ Q (.bl (!decide (x = y))) H
theorem dec_int {i j : Int} : decide (V.int i = V.int j) = (i == j) := by
  rw [Bool.eq_iff_iff]
  simp
theorem dec_bl {i j : Bool} : decide (V.bl i = V.bl j) = (i == j) := by
  rw [Bool.eq_iff_iff]
  simp
theorem dec_str {i j : Str} : decide (V.str i = V.str j) = (i == j) := by
  rw [Bool.eq_iff_iff]
  simp
theorem dec_byt {i j : Array UInt8} : decide (V.byt i = V.byt j) = (i.toList == j.toList) := by
  rw [Bool.eq_iff_iff]
  cases i
  cases j
  simp
section
variable {X : Cx} {a b c : Expr} {ta tb tc : TE} {pos : Pos}
theorem fin_bl {pins : List (Addr × Obj)} {σ : St} {H : Hp} {s : Shared} {Q : VK} {k k' : Bool} (I : Inv X pins σ H s) (q : Q (.bl k) H) (e : k = k') : EP X pins σ Q (.bool k') s := by
  subst e
  exact ⟨.bl k, H, I, rfl, q⟩
theorem op_eq : OpR X (compareOp .Eq) rEq := by
  intro pins s σ H x y v u Q I rx ry h
  obtain ⟨hs, q⟩ := h
  cases x with
  | non =>
    cases rx
    cases y with
    | non => cases ry; exact PySem.EqNone.eq_none_none (fin_bl I q (by simp))
    | bl j => cases ry; exact PySem.EqNone.eq_none_bool (fin_bl I q (by simp))
    | int j => obtain ⟨t', rfl⟩ := ry; exact PySem.EqNone.eq_none_int (fin_bl I q (by simp))
    | str j => obtain ⟨t', rfl⟩ := ry; exact PySem.EqNone.eq_none_str (fin_bl I q (by simp))
    | _ => exact absurd (show false = true from hs) Bool.false_ne_true
  | bl i =>
    cases rx
    cases y with
    | non => cases ry; exact PySem.EqNone.eq_bool_none (fin_bl I q (by simp))
    | bl j => cases ry; exact eq_bool (fin_bl I q dec_bl)
    | str j => obtain ⟨t', rfl⟩ := ry; exact PySem.EqMixed.eq_bool_str (fin_bl I q (by simp))
    | _ => exact absurd (show false = true from hs) Bool.false_ne_true
  | int i =>
    obtain ⟨t, rfl⟩ := rx
    cases y with
    | non => cases ry; exact PySem.EqNone.eq_int_none (fin_bl I q (by simp))
    | int j => obtain ⟨t', rfl⟩ := ry; exact eq_int (fin_bl I q dec_int)
    | str j => obtain ⟨t', rfl⟩ := ry; exact PySem.EqMixed.eq_int_str (fin_bl I q (by simp))
    | _ => exact absurd (show false = true from hs) Bool.false_ne_true
  | str i =>
    obtain ⟨t, rfl⟩ := rx
    cases y with
    | non => cases ry; exact PySem.EqNone.eq_str_none (fin_bl I q (by simp))
    | bl j => cases ry; exact PySem.EqMixed.eq_str_bool (fin_bl I q (by simp))
    | int j => obtain ⟨t', rfl⟩ := ry; exact PySem.EqMixed.eq_str_int (fin_bl I q (by simp))
    | str j => obtain ⟨t', rfl⟩ := ry; exact eq_str (fin_bl I q dec_str)
    | _ => exact absurd (show false = true from hs) Bool.false_ne_true
  | byt i =>
    obtain ⟨t, rfl⟩ := rx
    cases y with
    | byt j => obtain ⟨t', rfl⟩ := ry; exact PySem.W.eq_bytes (fin_bl I q dec_byt)
    | _ => exact absurd (show false = true from hs) Bool.false_ne_true
  | _ => cases y <;> exact absurd (show false = true from hs) Bool.false_ne_true
theorem op_ne : OpR X (compareOp .NotEq) rNe := by
  intro pins s σ H x y v u Q I rx ry h
  obtain ⟨hs, q⟩ := h
  cases x with
  | non =>
    cases rx
    cases y with
    | non => cases ry; exact PySem.EqNone.ne_none_none (fin_bl I q (by simp))
    | bl j => cases ry; exact PySem.EqNone.ne_none_bool (fin_bl I q (by simp))
    | int j => obtain ⟨t', rfl⟩ := ry; exact PySem.EqNone.ne_none_int (fin_bl I q (by simp))
    | str j => obtain ⟨t', rfl⟩ := ry; exact PySem.EqNone.ne_none_str (fin_bl I q (by simp))
    | _ => exact absurd (show false = true from hs) Bool.false_ne_true
  | bl i =>
    cases rx
    cases y with
    | non => cases ry; exact PySem.EqNone.ne_bool_none (fin_bl I q (by simp))
    | bl j => cases ry; exact ne_bool (fin_bl I q (congrArg not dec_bl))
    | str j => obtain ⟨t', rfl⟩ := ry; exact PySem.EqMixed.ne_bool_str (fin_bl I q (by simp))
    | _ => exact absurd (show false = true from hs) Bool.false_ne_true
  | int i =>
    obtain ⟨t, rfl⟩ := rx
    cases y with
    | non => cases ry; exact PySem.EqNone.ne_int_none (fin_bl I q (by simp))
    | int j => obtain ⟨t', rfl⟩ := ry; exact ne_int (fin_bl I q (congrArg not dec_int))
    | str j => obtain ⟨t', rfl⟩ := ry; exact PySem.EqMixed.ne_int_str (fin_bl I q (by simp))
    | _ => exact absurd (show false = true from hs) Bool.false_ne_true
  | str i =>
    obtain ⟨t, rfl⟩ := rx
    cases y with
    | non => cases ry; exact PySem.EqNone.ne_str_none (fin_bl I q (by simp))
    | bl j => cases ry; exact PySem.EqMixed.ne_str_bool (fin_bl I q (by simp))
    | int j => obtain ⟨t', rfl⟩ := ry; exact PySem.EqMixed.ne_str_int (fin_bl I q (by simp))
    | str j => obtain ⟨t', rfl⟩ := ry; exact ne_str (fin_bl I q (congrArg not dec_str))
    | _ => exact absurd (show false = true from hs) Bool.false_ne_true
  | byt i =>
    obtain ⟨t, rfl⟩ := rx
    cases y with
    | byt j => obtain ⟨t', rfl⟩ := ry; exact PySem.W.ne_bytes (fin_bl I q (congrArg not dec_byt))
    | _ => exact absurd (show false = true from hs) Bool.false_ne_true
  | _ => cases y <;> exact absurd (show false = true from hs) Bool.false_ne_true
theorem op_lt : OpR X (compareOp .Lt) (rI0 fun i j => .bl (decide (i < j))) := opB0 fun _ _ _ _ _ _ _ q => lt_int q
theorem op_le : OpR X (compareOp .LtE) (rI0 fun i j => .bl (decide (i ≤ j))) := opB0 fun _ _ _ _ _ _ _ q => le_int q
theorem op_gt : OpR X (compareOp .Gt) (rI0 fun i j => .bl (decide (j < i))) := opB0 fun _ _ _ _ _ _ _ q => gt_int q
theorem op_ge : OpR X (compareOp .GtE) (rI0 fun i j => .bl (decide (j ≤ i))) := opB0 fun _ _ _ _ _ _ _ q => ge_int q
theorem nomark (b : Expr) {op : CmpOp} (h : op ≠ .In := by decide) (h2 : op ≠ .NotIn := by decide) : behindInMarks op b = false := by
  have e1 : (op == CmpOp.In) = false := by cases op <;> first | rfl | exact absurd rfl h
  have e2 : (op == CmpOp.NotIn) = false := by cases op <;> first | rfl | exact absurd rfl h2
  cases b <;> simp [behindInMarks, e1, e2]
theorem pe_cmpR {op : CmpOp} {r : R2} (ho : OpR X (compareOp op) r) (ha : PE X a ta) (hb : PE X b tb) (hm : behindInMarks op b = false) : PE X (.Compare a [op] [b] pos) (tOp r ta tb) := by
  intro pins s σ H Q I h
  exact wpAny_Compare1 (binT ha hb I h fun v u s2 x y H2 I2 rx ry q => ho pins s2 σ H2 x y v u Q I2 rx ry q) hm
def tTest (t : TE) : TT := fun σ H Q => t σ H fun x H' => ∃ k, x = .bl k ∧ Q k H'
theorem pt_cmpR {op : CmpOp} {r : R2} (ho : OpR X (compareOp op) r) (ha : PE X a ta) (hb : PE X b tb) (hm : behindInMarks op b = false) : PT X (.Compare a [op] [b] pos) (tTest (tOp r ta tb)) := by
  intro pins s σ H Q I h
  refine wpAny_isTrue_Compare1 (thn (ha pins s σ H _ I h) fun v s1 ⟨x, H1, I1, r1, q1⟩ => thn (hb pins s1 σ H1 _ I1 q1) fun u s2 ⟨y, H2, I2, r2, q2⟩ =>
    thn (ho pins s2 σ H2 x y v u _ I2 r1 r2 q2) fun c s3 ⟨z, H3, I3, r3, k, e, q3⟩ => ?_) hm
  subst e
  cases r3
  exact wpAny_truthy_bool ⟨H3, I3, q3⟩
def tChain (r r' : R2) (ta tb tc : TE) : TE := fun σ H Q => ta σ H fun x H1 => tb σ H1 fun y H2 => r x y H2 fun z H3 => ∃ k, z = .bl k ∧
  (if k = true then tc σ H3 fun w' H4 => r' y w' H4 Q else Q (.bl false) H3)
theorem pe_chain {op op' : CmpOp} {r r' : R2} (ho : OpR X (compareOp op) r) (ho' : OpR X (compareOp op') r') (ha : PE X a ta) (hb : PE X b tb) (hc : PE X c tc)
    (hm : lastMarks [op, op'] [b, c] = false := by with_unfolding_all rfl) : PE X (.Compare a [op, op'] [b, c] pos) (tChain r r' ta tb tc) := by
  intro pins s σ H Q I h
  refine Compare_chain (thn (ha pins s σ H _ I h) fun v s1 ⟨x, H1, I1, r1, q1⟩ => chain_link (thn (hb pins s1 σ H1 _ I1 q1) fun u s2 ⟨y, H2, I2, r2, q2⟩ =>
    thn (ho pins s2 σ H2 x y v u _ I2 r1 r2 q2) fun d s3 ⟨z, H3, I3, r3, k, e, q3⟩ => ?_)) hm
  subst e
  cases r3
  refine wpAny_truthy_bool ?_
  cases k with
  | false => exact ite_ff ⟨.bl false, H3, I3, rfl, q3⟩
  | true => exact ite_tt (chain_last (thn (hc pins s3 σ H3 _ I3 q3) fun w' s4 ⟨z', H4, I4, r4, q4⟩ => ho' pins s4 σ H4 y z' u w' Q I4 r2 r4 q4))
theorem pt_chain {op op' : CmpOp} {r r' : R2} (ho : OpR X (compareOp op) r) (ho' : OpR X (compareOp op') r') (ha : PE X a ta) (hb : PE X b tb) (hc : PE X c tc)
    (hm : lastMarks [op, op'] [b, c] = false := by with_unfolding_all rfl) : PT X (.Compare a [op, op'] [b, c] pos) (tTest (tChain r r' ta tb tc)) := by
  intro pins s σ H Q I h
  refine isTrue_chain (thn (ha pins s σ H _ I h) fun v s1 ⟨x, H1, I1, r1, q1⟩ => test_link (thn (hb pins s1 σ H1 _ I1 q1) fun u s2 ⟨y, H2, I2, r2, q2⟩ =>
    thn (ho pins s2 σ H2 x y v u _ I2 r1 r2 q2) fun d s3 ⟨z, H3, I3, r3, k, e, q3⟩ => ?_)) hm
  subst e
  cases r3
  refine wpAny_truthy_bool ?_
  cases k with
  | false =>
    obtain ⟨k', e', q'⟩ := q3
    cases e'
    exact ite_ff ⟨H3, I3, q'⟩
  | true =>
    refine ite_tt (test_last (thn (hc pins s3 σ H3 _ I3 q3) fun w' s4 ⟨z', H4, I4, r4, q4⟩ => thn (ho' pins s4 σ H4 y z' u w' _ I4 r2 r4 q4) fun d' s5 ⟨z2, H5, I5, r5, k2, e2, q5⟩ => ?_))
    subst e2
    cases r5
    exact wpAny_truthy_bool ⟨H5, I5, q5⟩
theorem line63 : (sizeLine : Nat) < 2 ^ 63 := by rw [sizeLine_eq]; decide
theorem vals1 {x : V} {us : List Value} (r : Vals [x] us) : ∃ u, us = [u] ∧ RelV x u := by
  cases r with
  | cons r1 r2 => cases r2; exact ⟨_, rfl, r1⟩
theorem vals2 {x y : V} {us : List Value} (r : Vals [x, y] us) : ∃ u w', us = [u, w'] ∧ RelV x u ∧ RelV y w' := by
  cases r with
  | cons r1 r2 =>
    cases r2 with
    | cons r3 r4 => cases r4; exact ⟨_, _, rfl, r1, r3⟩
theorem call_abs : CallR X (.builtin "abs") (fun xs H Q => ∃ i, xs = [.int i] ∧ Q (.int (if i < 0 then -i else i)) H) := by
  intro pins s σ H xs us Q I r h
  obtain ⟨i, rfl, q⟩ := h
  obtain ⟨u, rfl, t, rfl⟩ := vals1 r
  exact call_abs_int fun u tk => ⟨.int (if i < 0 then -i else i), H, I.tok _, ⟨_, rfl⟩, q⟩
theorem call_max2 (hc : X.calm = true) : CallR X (.builtin "max") (fun xs H Q => ∃ i j, xs = [.int i, .int j] ∧ Q (.int (if j > i then j else i)) H) := by
  intro pins s σ H xs us Q I r h
  obtain ⟨i, j, rfl, q⟩ := h
  obtain ⟨u, w', rfl, ⟨t, rfl⟩, ⟨t', rfl⟩⟩ := vals2 r
  refine max_two_ints (I.ok.hd hc) fun h' tk k => ⟨_, H, I.kept k, ?_, q⟩
  by_cases hj : j > i
  · rw [if_pos hj, if_pos hj]; exact ⟨_, rfl⟩
  · rw [if_neg hj, if_neg hj]; exact ⟨_, rfl⟩
theorem call_ord : CallR X (.builtin "ord") (fun xs H Q => ∃ x, xs = [.str x] ∧ x.length = 1 ∧ Q (.int (x.cps.getD 0 0 : Nat)) H) := by
  intro pins s σ H xs us Q I r h
  obtain ⟨x, rfl, hz, q⟩ := h
  obtain ⟨u, rfl, t, rfl⟩ := vals1 r
  exact ord_of_one hz ⟨.int _, H, I.tok _, ⟨_, rfl⟩, q⟩
end
end L2
namespace L2
open PySem PySem.Spec PyProof.Rows
structure ObjM (h : Heap) (x dx C : Addr) (mA : Str → Option Value) : Prop where
  obj : h.get? x = some (PySem.W.instObj C dx)
  ns : h.Ns1 dx mA
  ne : dx ≠ x
theorem lookIn_ns {h : Heap} {dx : Addr} {mA : Str → Option Value} (n : h.Ns1 dx mA) : ∃ od, h.get? dx = some od ∧ ∀ name, PySem.W.lookIn name od = some (mA name) := by
  obtain ⟨o, es, ep, ho, hd, hk, _, hm⟩ := n
  refine ⟨o, ho, fun name => ?_⟩
  have e := hm name
  unfold nsFind findBy at e
  rw [← Array.find?_toList] at e
  unfold PySem.W.lookIn
  rw [hd]
  dsimp only
  split
  · rename_i y q
    rw [q] at e
    exact congrArg some e
  · rename_i q
    rw [q] at e
    have a : es.toList.any (·.refKey) = false := by
      rw [List.any_eq_false]
      intro y hy
      obtain ⟨z, t, hkey⟩ := hk y (Array.mem_toList_iff.mp hy)
      simp [DictEntry.refKey, hkey]
    have a' : ¬ es.toList.any (·.refKey) = true := by rw [a]; exact Bool.false_ne_true
    rw [if_neg a']
    exact congrArg some e
theorem ObjM.look {h : Heap} {x dx C : Addr} {mA : Str → Option Value} (I : ObjM h x dx C mA) : ∃ od, PySem.W.InstAt h x (PySem.W.instObj C dx) C (some od) ∧ ∀ name, PySem.W.lookIn name od = some (mA name) :=
  let ⟨od, ho, hl⟩ := lookIn_ns I.ns
  ⟨od, ⟨I.obj, rfl, rfl, ho⟩, hl⟩
section
variable {prog : Program} {w : World} {A : Around} {E : Value → Shared → Prop} {s : Shared} {K : PySem.W.Frag} {x dx C f : Addr} {mA : Str → Option Value} {name : Str} {v : Value}
theorem get_map {expr : Bool} {Q : Value → Shared → Prop} (X : K.In s.heap) (I : ObjM s.heap x dx C mA) (hg : PySem.W.plainGet K C name = true) (hh : PySem.W.hasDictIn K C = true)
    (ha : PySem.W.findIn K (.ref C) name = some none) (hv : mA name = some v) (hv' : PySem.W.handedIn v = true) (h : Q v { s with toks := s.toks + 1 }) :
    wpAny (model prog w) A (getAttr (.ref x) name expr) Q E s := by
  obtain ⟨od, J, hl⟩ := I.look
  exact PySem.W.get_value X J (PySem.W.plainGet_of hg).1 (PySem.W.findObj_own hh ha rfl (by rw [hl, hv])) hv' h
theorem get_meth {pl : Sem Bool} {Q : Value × List Value → Shared → Prop} (X : K.In s.heap) (I : ObjM s.heap x dx C mA) (hg : PySem.W.plainGet K C name = true)
    (hf : PySem.W.findIn K (.ref C) name = some (some (.ref f))) (ht : PySem.W.isFn K (.ref f) = true) (hv : mA name = none) (h : Q (.ref f, [.ref x]) s) :
    wpAny (model prog w) A (getMethod (.ref x) name pl) Q E s := by
  obtain ⟨od, J, hl⟩ := I.look
  exact PySem.W.method_fn X J (PySem.W.plainGet_of hg).1 (PySem.W.plainGet_of hg).2 hf (beq_iff_eq.mp ht) (by show (PySem.W.lookIn name od).map (·.isSome) = some false; rw [hl, hv]; rfl) h
theorem set_map {ns : List Str} {Q : Unit → Shared → Prop} (X : K.In s.heap) (I : ObjM s.heap x dx C mA)
    (hs : PySem.W.findIn K (.ref C) "__setattr__" = some (some (.builtin "object.__setattr__"))) (hp : PySem.W.plainOver K C = true) (ht : PySem.W.takerIn K C name = some none) (hh : PySem.W.hasDictIn K C = true)
    (hw : PySem.Within mA ns) (hsz : ns.length ≤ sizeLine)
    (h : ∀ h', ObjM h' x dx C (fun y => if y = name then some v else mA y) → Heap.SameBut dx s.heap h' → Q () { s with heap := h', toks := s.toks + 2 }) :
    wpAny (model prog w) A (setAttr (.ref x) name v) Q E s := by
  obtain ⟨od, J, hl⟩ := I.look
  refine PySem.W.set_plain X J hs (PySem.W.osa_open (s := { s with toks := s.toks + 1 }) (r := none) X J hp ht fun b => ?_)
  obtain ⟨cd, hc, hd'⟩ := PySem.W.any_some hh
  have hx : s.heap.get? x = some ⟨.ref C, some dx, .plain, #[]⟩ := I.obj
  refine wpAny_bind (wpAny_pure (wpAny_bind (wpAny_bind (wpAny_loadPart hx (wpAny_bind (PySem.W.Looks.here (s := { s with toks := s.toks + 1 }) (PySem.W.looks_clsIn X hc) ?_))))))
  rw [hd']
  refine wpAny_pure (a := some dx) (wpAny_bind (wpAny_pure (wpAny_bind ?_)))
  refine wpAny_nsSet1 (s := { s with toks := s.toks + 1 }) I.ns fun h' hn2 hs2 => ?_
  obtain ⟨oD, esD, epD, hoD, hdD, hcD⟩ := hn2.count (PySem.Within.cons name v hw)
  refine wpAny_bind (wpAny_lookBehind hoD (by rw [hdD]; exact pastItsLine_dict (Nat.le_trans hcD (by rw [List.length_cons]; omega))) ?_)
  exact wpAny_pure (h _ ⟨(hs2.2 _ (Ne.symm I.ne)).trans I.obj, hn2, I.ne⟩ hs2)
theorem make_map {R : Result → Shared → Prop} {vs : List Value} {kw : List (Str × Value)} (X : K.In s.heap) (hm : PySem.W.makesIn K C = true)
    (hi : PySem.W.findIn K (.ref C) "__init__" = some (some (.ref f))) (hf : PySem.W.typeIn K (.ref f) = some (.type "function"))
    (h : codeAny (model prog w) (A.under (.builtin "type.__call__" ⟨.ref C :: vs, kw⟩)) (.call (.ref f) ⟨.ref (s.heap.objs.size + 1) :: vs, kw⟩) (PySem.W.InitBack (s.heap.objs.size + 1) R)
      { s with heap := (s.heap.push PySem.W.emptyDict).push (PySem.W.instObj C s.heap.objs.size) }) :
    codeAny (model prog w) A (.call (.ref C) ⟨vs, kw⟩) R s := by
  obtain ⟨hh, g, d, t, os⟩ := s
  exact PySem.W.make_core (PySem.W.makes_of X hm) (PySem.W.looks_findIn X hi) (fun self => PySem.W.bind_fn X self hf) (.inl rfl) h
end
def putF (f : Str) (v : V) : List (Str × V) → List (Str × V)
  | [] => [(f, v)]
  | (g, x) :: r => if g = f then (g, v) :: r else (g, x) :: putF f v r
theorem lookup_putF (f g : Str) (v : V) : ∀ fs : List (Str × V), (putF f v fs).lookup g = if g = f then some v else fs.lookup g
  | [] => by
    show List.lookup g [(f, v)] = _
    by_cases h : g = f
    · have hb : (g == f) = true := beq_iff_eq.mpr h
      simp only [List.lookup, hb, if_pos h]
    · have hb : (g == f) = false := beq_eq_false_iff_ne.mpr h
      simp only [List.lookup, hb, if_neg h]
  | (k, x) :: r => by
    have ih := lookup_putF f g v r
    rw [show putF f v ((k, x) :: r) = (if k = f then (k, v) :: r else (k, x) :: putF f v r) from rfl]
    by_cases hk : k = f
    · rw [if_pos hk]
      by_cases h : g = k
      · have hb : (g == k) = true := beq_iff_eq.mpr h
        simp only [List.lookup, hb, if_pos (h.trans hk)]
      · have hb : (g == k) = false := beq_eq_false_iff_ne.mpr h
        simp only [List.lookup, hb, if_neg (fun e : g = f => h (e.trans hk.symm))]
    · rw [if_neg hk]
      by_cases h : g = k
      · have hb : (g == k) = true := beq_iff_eq.mpr h
        simp only [List.lookup, hb, if_neg (fun e : g = f => hk (h.symm.trans e))]
      · have hb : (g == k) = false := beq_eq_false_iff_ne.mpr h
        simp only [List.lookup, hb]
        exact ih
theorem keys_putF (f : Str) (v : V) : ∀ fs : List (Str × V), f ∈ (putF f v fs).map (·.1) ∧ ∀ g, g ∈ fs.map (·.1) → g ∈ (putF f v fs).map (·.1)
  | [] => ⟨by simp [putF], fun g h => by simp at h⟩
  | (k, x) :: r => by
    obtain ⟨i1, i2⟩ := keys_putF f v r
    rw [show putF f v ((k, x) :: r) = (if k = f then (k, v) :: r else (k, x) :: putF f v r) from rfl]
    by_cases hk : k = f
    · rw [if_pos hk]
      subst hk
      exact ⟨by simp, fun g h => by simpa using h⟩
    · rw [if_neg hk]
      refine ⟨?_, fun g h => ?_⟩
      · rw [List.map_cons]
        exact List.mem_cons_of_mem _ i1
      · rw [List.map_cons] at h ⊢
        rcases List.mem_cons.mp h with e | e
        · exact List.mem_cons.mpr (.inl e)
        · exact List.mem_cons_of_mem _ (i2 g e)
theorem length_putF (f : Str) (v : V) : ∀ fs : List (Str × V), (putF f v fs).length ≤ fs.length + 1
  | [] => by simp [putF]
  | (k, x) :: r => by
    have ih := length_putF f v r
    rw [show putF f v ((k, x) :: r) = (if k = f then (k, v) :: r else (k, x) :: putF f v r) from rfl]
    by_cases hk : k = f
    · rw [if_pos hk, List.length_cons, List.length_cons]; omega
    · rw [if_neg hk, List.length_cons, List.length_cons]; omega
theorem RelO.some_of {v : V} {o : Option Value} (r : RelO (some v) o) : ∃ u, o = some u ∧ RelV v u := by
  cases o with
  | none => exact (show False from r).elim
  | some u => exact ⟨u, rfl, r⟩
theorem RelO.none_of {o : Option Value} (r : RelO none o) : o = none := by
  cases o with
  | none => rfl
  | some u => exact (show False from r).elim
theorem handed_of {v : V} {u : Value} (r : RelV v u) : PySem.W.handedIn u = true := by
  cases v with
  | non => cases (show u = Value.none from r); rfl
  | bl b => cases (show u = Value.bool b from r); rfl
  | int i => obtain ⟨t, e⟩ := (show ∃ t, u = Value.int i t from r); cases e; rfl
  | str x => obtain ⟨t, e⟩ := (show ∃ t, u = Value.str x t from r); cases e; rfl
  | byt b => obtain ⟨t, e⟩ := (show ∃ t, u = Value.bytes b t from r); cases e; rfl
  | flt b => obtain ⟨t, e⟩ := (show ∃ t, u = Value.float b t from r); cases e; rfl
  | ref a => cases (show u = Value.ref a from r); rfl
  | ty n => cases (show u = Value.type n from r); rfl
section
variable {P : Program} {w : World} {H H' : Hp} {h h' : Heap} {a C dx : Addr} {fs fs' : List (Str × V)}
theorem ins_get (hok : HOk P w H h) (e : H a = some (.ins C dx fs)) : ∃ mA, ObjM h a dx C mA ∧ (∀ f, RelO (fs.lookup f) (mA f)) ∧ PySem.Within mA (fs.map (·.1)) ∧ fs.length ≤ 1000 ∧ H dx = some (.own a) := by
  obtain ⟨d, z, ne, ob, mA, n, r, q⟩ := (show ObjOk P w H h a (.ins C dx fs) from hok a _ e)
  exact ⟨mA, ⟨ob, n, ne⟩, r, q, z, d⟩
end
structure Cls (K : PySem.W.Frag) (C : Addr) : Prop where
  pg : PySem.W.plainGet K C Str.empty = true
  hd : PySem.W.hasDictIn K C = true
  po : PySem.W.plainOver K C = true
  sa : PySem.W.findIn K (.ref C) "__setattr__" = some (some (.builtin "object.__setattr__"))
theorem Cls.get {K : PySem.W.Frag} {C : Addr} (c : Cls K C) (f : Str) : PySem.W.plainGet K C f = true := c.pg
def NoAttr (K : PySem.W.Frag) (C : Addr) (f : Str) : Prop := PySem.W.findIn K (.ref C) f = some none
theorem NoAttr.taker {K : PySem.W.Frag} {C : Addr} {f : Str} (n : NoAttr K C f) : PySem.W.takerIn K C f = some none := by
  unfold PySem.W.takerIn
  rw [show PySem.W.findIn K (.ref C) f = some none from n]
  rfl
structure Meth (K : PySem.W.Frag) (C : Addr) (m : Str) (f : Addr) : Prop where
  at_ : PySem.W.findIn K (.ref C) m = some (some (.ref f))
  fn : PySem.W.isFn K (.ref f) = true
  kp : PySem.W.keepIn K (.ref f) = true
section
variable {X : Cx} {pins : List (Addr × Obj)} {σ : St} {H : Hp} {s : Shared} {a C dx : Addr} {fs : List (Str × V)} {f : Str} {v : V} {A : Around} {E : Value → Shared → Prop}
theorem getattr_ok {b : Bool} {Q : Value → Shared → Prop} (I : Inv X pins σ H s) (e : H a = some (.ins C dx fs)) (c : Cls X.K C) (n : NoAttr X.K C f) (l : fs.lookup f = some v)
    (h : ∀ u s', Inv X pins σ H s' → RelV v u → Q u s') : wpAny (model X.prog X.w) A (getAttr (.ref a) f b) Q E s := by
  obtain ⟨mA, O, r, _, _, _⟩ := ins_get I.hok e
  obtain ⟨u, hu, ru⟩ := RelO.some_of (v := v) (o := mA f) (by rw [← l]; exact r f)
  exact get_map I.kIn O (c.get f) c.hd n hu (handed_of ru) (h u _ (I.tok _) ru)
theorem getmeth_ok {m : Str} {g : Addr} {pl : Sem Bool} {Q : Value × List Value → Shared → Prop} (I : Inv X pins σ H s) (e : H a = some (.ins C dx fs)) (c : Cls X.K C) (k : Meth X.K C m g) (l : fs.lookup m = none)
    (h : Q (.ref g, [.ref a]) s) : wpAny (model X.prog X.w) A (getMethod (.ref a) m pl) Q E s := by
  obtain ⟨mA, O, r, _, _, _⟩ := ins_get I.hok e
  have hn : mA m = none := RelO.none_of (by rw [← l]; exact r m)
  exact get_meth I.kIn O (c.get m) k.at_ k.fn hn h
theorem setattr_ok {y : V} {u : Value} {Q : Unit → Shared → Prop} (I : Inv X pins σ H s) (e : H a = some (.ins C dx fs)) (c : Cls X.K C) (n : NoAttr X.K C f) (hl : fs.length < 1000) (ry : RelV y u)
    (h : ∀ s', Inv X pins σ (upd H a (.ins C dx (putF f y fs))) s' → Q () s') : wpAny (model X.prog X.w) A (setAttr (.ref a) f u) Q E s := by
  obtain ⟨mA, O, r, wi, _, ho⟩ := ins_get I.hok e
  have hz : (fs.map (·.1)).length ≤ sizeLine := by rw [List.length_map, sizeLine_eq]; omega
  refine set_map I.kIn O c.sa c.po n.taker c.hd wi hz fun h' O' sb => h _ ?_
  have hd : ∃ o, h'.get? dx = some o := let ⟨o, _, _, e', _⟩ := O'.ns; ⟨o, e'⟩
  refine I.write (x := a) (e := dx) (by rw [e]; exact True.intro) (.inr ho) (fun b q hb z => (sb.2 b hb).trans z) hd ?_
  refine ⟨by rw [upd_ne O.ne]; exact ho, ?_, O.ne, O'.obj, _, O'.ns, fun g => ?_, fun g hg => ?_⟩
  · have := length_putF f y fs; omega
  · show RelO ((putF f y fs).lookup g) (if g = f then some u else mA g)
    rw [lookup_putF]
    by_cases q : g = f
    · rw [if_pos q, if_pos q]; exact ry
    · rw [if_neg q, if_neg q]; exact r g
  · by_cases q : g = f
    · rw [q]; exact (keys_putF f y fs).1
    · refine (keys_putF f y fs).2 g (wi g fun z => hg ?_)
      show (if g = f then some u else mA g) = none
      rw [if_neg q]; exact z
theorem Inv.made (I : Inv X pins σ H s) : Inv X pins σ (upd (upd H s.heap.objs.size (.own (s.heap.objs.size + 1))) (s.heap.objs.size + 1) (.ins C s.heap.objs.size []))
    { s with heap := (s.heap.push PySem.W.emptyDict).push (PySem.W.instObj C s.heap.objs.size) } := by
  have e1 : (s.heap.push PySem.W.emptyDict).get? s.heap.objs.size = some PySem.W.emptyDict := Heap.get?_push_size s.heap rfl
  have e2 : ((s.heap.push PySem.W.emptyDict).push (PySem.W.instObj C s.heap.objs.size)).get? (s.heap.objs.size + 1) = some (PySem.W.instObj C s.heap.objs.size) := by
    have := Heap.get?_push_size (s.heap.push PySem.W.emptyDict) (o := PySem.W.instObj C s.heap.objs.size) rfl
    rwa [Heap.size_push] at this
  have e3 : (s.heap.push PySem.W.emptyDict).Ns s.heap.objs.size (fun _ => none) := ⟨PySem.W.emptyDict, #[], _, e1, rfl, (fun e he => absurd he (by simp)), fun _ => rfl⟩
  have I1 := I.laid (a := s.heap.objs.size) (o := .own (s.heap.objs.size + 1)) (h' := s.heap.push PySem.W.emptyDict) (t' := s.toks) (fun b u q => Heap.get?_push_of_some _ q) (Nat.le_refl _) ⟨_, e1⟩
  refine I1.laid (a := s.heap.objs.size + 1) (o := .ins C s.heap.objs.size []) (t' := s.toks) (fun b u q => Heap.get?_push_of_some _ q) (Nat.le_of_eq (Heap.size_push _ _)) ?_
  have ne : s.heap.objs.size ≠ s.heap.objs.size + 1 := Nat.ne_of_lt (Nat.lt_succ_self _)
  refine ⟨by rw [upd_ne ne, upd_same], Nat.zero_le _, ne, e2, fun _ => none, (Heap.Ns1.of_empty e3).at fun o q => Heap.get?_push_of_some _ q, fun _ => True.intro, fun y hy => absurd rfl hy⟩
theorem attr_of {prog : Program} {w : World} {env : Env} {e : Expr} {f : Str} {pos : Pos} {s : Shared} {Q : Value → Shared → Prop} (hb : attributeBase e f env (eval e env) = eval e env)
    (h : wpAny (model prog w) A (eval e env) (fun o s₁ => wpAny (model prog w) A (getAttr o f true) Q E s₁) E s) : wpAny (model prog w) A (eval (.Attribute e f pos) env) Q E s :=
  Attribute_any_ h (by rw [arm_eval_Attribute, hb])
end
def tFld (K : PySem.W.Frag) (ta : TE) (f : Str) : TE := fun σ H Q => ta σ H fun x H1 => ∃ a C dx fs v, x = .ref a ∧ H1 a = some (.ins C dx fs) ∧ Cls K C ∧ NoAttr K C f ∧ fs.lookup f = some v ∧ Q v H1
def sFld (K : PySem.W.Frag) (ta tv : TE) (f : Str) : TS := fun D σ H => tv σ H fun y H1 => ta σ H1 fun x H2 => ∃ a C dx fs, x = .ref a ∧ H2 a = some (.ins C dx fs) ∧ Cls K C ∧ NoAttr K C f ∧ fs.length < 1000 ∧
  D.nx σ (upd H2 a (.ins C dx (putF f y fs)))
def InOp (X : Cx) (op : Operator) (rd : V → V → Hp → VK → Prop) : Prop :=
  ∀ (pins : List (Addr × Obj)) (s : Shared) (σ : St) (H : Hp) (x y : V) (u v : Value) (Q : VK), Inv X pins σ H s → RelV x u → RelV y v → rd x y H Q → wpAny (model X.prog X.w) X.A (inplaceOp op u v) (EP X pins σ Q) X.xe s
def sFldAug (K : PySem.W.Frag) (ta tv : TE) (rd : V → V → Hp → VK → Prop) (f : Str) : TS := fun D σ H => ta σ H fun x H1 => ∃ a C dx fs v, x = .ref a ∧ H1 a = some (.ins C dx fs) ∧ Cls K C ∧ NoAttr K C f ∧ fs.lookup f = some v ∧
  tv σ H1 fun y H2 => rd v y H2 fun z H3 => ∃ dx' fs', H3 a = some (.ins C dx' fs') ∧ fs'.length < 1000 ∧ D.nx σ (upd H3 a (.ins C dx' (putF f z fs')))
section
variable {X : Cx} {o e value : Expr} {f : Str} {pos pos' tpos : Pos} {ta tv : TE}
theorem pe_fld (he : PE X e ta) (hb : attributeBase e f X.env (eval e X.env) = eval e X.env) : PE X (.Attribute e f pos) (tFld X.K ta f) := by
  intro pins s σ H Q I h
  refine attr_of hb (thn (he pins s σ H _ I h) fun u s1 ⟨x, H1, I1, rx, a, C, dx, fs, v, ex, ea, c, n, l, q⟩ => ?_)
  subst ex
  obtain rfl : u = Value.ref a := rx
  exact getattr_ok I1 ea c n l fun u' s2 I2 ru => ⟨v, H1, I2, ru, q⟩
theorem ps_fld (ha : PE X o ta) (hv : PE X value tv) (hs : swapsWith value (some (.Attribute o f pos')) pos.line X.env = pure false) : PS X (.Assign [.Attribute o f pos'] value pos) (sFld X.K ta tv f) := by
  intro pins s σ H D I h
  refine plainObj_wpAny_Assign_Attribute (thn (hv pins s σ H _ I h) fun u s1 ⟨y, H1, I1, ry, q⟩ => thn (ha pins s1 σ H1 _ I1 q) fun ov s2 ⟨x, H2, I2, rx, a, C, dx, fs, ex, ea, c, n, l, q2⟩ => ?_) hs
  subst ex
  obtain rfl : ov = Value.ref a := rx
  exact setattr_ok I2 ea c n l ry fun s3 I3 => ⟨σ, _, I3, q2⟩
theorem ps_fldaug {op : Operator} {rd : V → V → Hp → VK → Prop} (ha : PE X o ta) (hv : PE X value tv) (hop : InOp X op rd) : PS X (.AugAssign (.Attribute o f tpos) op value pos) (sFldAug X.K ta tv rd f) := by
  intro pins s σ H D I h
  refine wpAny_AugAssign_AttributeAny (thn (ha pins s σ H _ I h) fun ov s1 ⟨x, H1, I1, rx, a, C, dx, fs, v, ex, ea, c, n, l, q⟩ => ?_)
  subst ex
  obtain rfl : ov = Value.ref a := rx
  refine getattr_ok I1 ea c n l fun u s2 I2 ru => thn (hv pins s2 σ H1 _ I2 q) fun w3 s3 ⟨y, H2, I3, ry, q3⟩ => thn (hop pins s3 σ H2 v y u w3 _ I3 ru ry q3) fun w4 s4 ⟨z, H3, I4, rz, dx', fs', ea', l', q4⟩ => ?_
  exact setattr_ok I4 ea' c n l' rz fun s5 I5 => ⟨σ, _, I5, q4⟩
def rAdd : V → V → Hp → VK → Prop := fun x y H Q => ∃ i j, x = .int i ∧ y = .int j ∧ Q (.int (i + j)) H
theorem in_add : InOp X .Add rAdd := by
  rintro pins s σ H x y u v Q I rx ry ⟨i, j, rfl, rfl, q⟩
  obtain ⟨t, rfl⟩ := (show ∃ t, u = Value.int i t from rx)
  obtain ⟨t', rfl⟩ := (show ∃ t', v = Value.int j t' from ry)
  exact PyProof.Rows.iadd_int ⟨.int (i + j), H, I.tok _, ⟨_, rfl⟩, q⟩
end
section
variable {X : Cx} {pins : List (Addr × Obj)} {σ : St} {H : Hp} {s : Shared} {A : Around} {E : Value → Shared → Prop} {Q : Value → Shared → Prop} {c : Value} {b : Bool}
end
end L2
namespace L2
open PySem PySem.Spec PyProof.Rows
structure Room (k : Nat) (A : Around) : Prop where
  hd : A.handled = none
  dp : A.depth + 3 * k + 5 < recursionLimit
  un : A.units + 16 * k + 200 < cLine
theorem Room.mono {j k : Nat} {A : Around} (r : Room k A) (h : j ≤ k) : Room j A := ⟨r.hd, by have := r.dp; omega, by have := r.un; omega⟩
theorem Room.deeper {k : Nat} {A : Around} (r : Room (k + 1) A) (env : Env) : Room k (A.deeper env) :=
  ⟨r.hd, by have := r.dp; show A.depth + 1 + 3 * k + 5 < _; omega, by have := r.un; show A.units + 3 + 16 * k + 200 < _; omega⟩
theorem make_depth {A : Around} {C : Addr} {us : List Value} {kw : List (Str × Value)} : (A.under (.builtin "type.__call__" ⟨.ref C :: us, kw⟩)).depth = A.depth + 1 := by
  first | rfl | simp [Around.under, Code.weight, Code.isCreation, Code.isGuard, Code.isCaller, Code.frames, Code.isFrame, guardIds]
theorem make_units {A : Around} {C : Addr} {us : List Value} {kw : List (Str × Value)} : (A.under (.builtin "type.__call__" ⟨.ref C :: us, kw⟩)).units = A.units + 1 := by
  first | rfl | simp [Around.under, Code.cUnits, Code.frames, Code.isFrame]
theorem Room.make {k : Nat} {A : Around} (r : Room (k + 1) A) (C : Addr) (us : List Value) (kw : List (Str × Value)) : Room k (A.under (.builtin "type.__call__" ⟨.ref C :: us, kw⟩)) :=
  ⟨r.hd, by have := r.dp; rw [make_depth]; omega, by have := r.un; rw [make_units]; omega⟩
theorem Room.depth {k : Nat} {A : Around} (r : Room k A) : A.depth < recursionLimit := by have := r.dp; omega
def tNil : TA := fun _ H Q => Q [] H
def tCons (ta : TE) (tr : TA) : TA := fun σ H Q => ta σ H fun x H1 => tr σ H1 fun xs H2 => Q (x :: xs) H2
section
variable {X : Cx} {e : Expr} {es : List Expr} {te : TE} {t : TA} {pos : Pos}
theorem pa_nil : PA X [] tNil := fun _ _ _ _ H Q I h => Calls.spliced_nil ⟨[], H, I, .nil, h⟩
theorem pa_cons (ha : PE X e te) (hr : PA X es t) (hs : starEach (e :: es) X.env = (false, eval e X.env) :: starEach es X.env := by rfl) : PA X (e :: es) (tCons te t) := by
  intro pos pins s σ H Q I h
  rw [hs]
  show wpAny _ _ (spliced ((false, eval e X.env) :: backTo pos (starEach es X.env))) _ _ s
  refine Calls.spliced_cons (thn (ha pins s σ H _ I h) fun u s1 ⟨x, H1, I1, r1, q1⟩ => ?_)
  exact thn (hr pos pins s1 σ H1 _ I1 q1) fun us s2 ⟨xs, H2, I2, r2, q2⟩ => ⟨x :: xs, H2, I2, .cons r1 r2, q2⟩
def tTup (t : TA) : TE := fun σ H Q => t σ H fun xs H1 => xs.length ≤ sizeLine ∧ ∀ p, H1 p = none → Q (.ref p) (upd H1 p (.tup xs))
def tLst (t : TA) : TE := fun σ H Q => t σ H fun xs H1 => xs.length ≤ sizeLine ∧ ∀ p, H1 p = none → Q (.ref p) (upd H1 p (.lst xs))
theorem pe_tup {x1} (h : PA X es t) : PE X (.Tuple es x1 pos) (tTup t) := by
  intro pins s σ H Q I hq
  refine wpAny_Tuple_spliced (thn (h pos pins s σ H _ I hq) fun us s1 ⟨xs, H1, I1, r, z, q⟩ => ⟨by rw [← r.length]; exact z, ?_⟩)
  have hf : H1 s1.heap.objs.size = none := I1.hok.fresh (Nat.le_refl _)
  refine ⟨.ref s1.heap.objs.size, upd H1 s1.heap.objs.size (.tup xs), I1.laid (t' := s1.toks) (fun b u e => Heap.get?_push_of_some _ e) (Nat.le_refl _) ?_, rfl, q _ hf⟩
  exact ⟨z, us, r, ⟨_, Heap.get?_push_size _ rfl, rfl, _, rfl⟩⟩
theorem pe_lst (h : PA X es t) : PE X (.List es pos) (tLst t) := by
  intro pins s σ H Q I hq
  refine wpAny_List_spliced (thn (h pos pins s σ H _ I hq) fun us s1 ⟨xs, H1, I1, r, z, q⟩ => ⟨by rw [← r.length]; exact z, ?_⟩)
  have hf : H1 s1.heap.objs.size = none := I1.hok.fresh (Nat.le_refl _)
  refine ⟨.ref s1.heap.objs.size, upd H1 s1.heap.objs.size (.lst xs), I1.laid (t' := s1.toks) (fun b u e => Heap.get?_push_of_some _ e) (Nat.le_refl _) ?_, rfl, q _ hf⟩
  exact ⟨z, us, 0, r, Heap.get?_push_size _ rfl⟩
end
abbrev Sp := List V → Hp → VK → XK → Prop
abbrev CXT := List Env → Hp → Shared → XK → Value → Shared → Prop
structure Env0 (P : Program) (w : World) (K : PySem.W.Frag) (mg : Str → Option Value) (base : Heap) (A : Around) (outer : List Env) (s : Shared) (H : Hp) : Prop where
  frames : A.frames = some outer
  mod : Mod K mg base
  bs : ∀ b o, base.get? b = some o → s.heap.get? b = some o ∧ H b = none
  bsz : base.objs.size ≤ s.heap.objs.size
  funs : s.heap.FunFrames base outer
  frf : ∀ b ∈ frs outer, H b = none
  hok : HOk P w H s.heap
  bare : AllBare s.gens
def CE (outer : List Env) (P : Program) (w : World) (H : Hp) (s : Shared) (Q : VK) (u : Value) (s' : Shared) : Prop :=
  ∃ v H', s'.os = s.os ∧ AllBare s'.gens ∧ Un (frs outer) [] H H' s.heap s'.heap ∧ HOk P w H' s'.heap ∧ RelV v u ∧ Q v H'
def CR (CX : CXT) (outer : List Env) (P : Program) (w : World) (H : Hp) (s : Shared) (Q : VK) (E : XK) (r : Result) (s' : Shared) : Prop :=
  match r with
  | .ok (.ret u) => CE outer P w H s Q u s'
  | .ok _ => False
  | .error e => CX outer H s E e s'
structure FnOk (P : Program) (w : World) (K : PySem.W.Frag) (mg : Str → Option Value) (base : Heap) (CX : CXT) (k : Nat) (f : Addr) (fd : FuncData) (ps : List Str) (sp : Sp) : Prop where
  len : ∀ vs H Q E, sp vs H Q E → vs.length = ps.length
  run : ∀ (A : Around) (outer : List Env) (s : Shared) (H : Hp) (args : Args) (us : List Value) (vs : List V) (Q : VK) (E : XK), Room k A → Env0 P w K mg base A outer s H → BindsTo s fd args (ps.zip us) → Vals vs us → sp vs H Q E →
    codeAny (model P w) A (.call (.ref f) args) (CR CX outer P w H s Q E) s
theorem FnOk.mono {P : Program} {w : World} {K : PySem.W.Frag} {mg : Str → Option Value} {base : Heap} {CX : CXT} {j k : Nat} {f : Addr} {fd : FuncData} {ps : List Str} {sp : Sp} (F : FnOk P w K mg base CX j f fd ps sp) (h : j ≤ k) :
    FnOk P w K mg base CX k f fd ps sp := ⟨F.len, fun A outer s H args us vs Q E hr => F.run A outer s H args us vs Q E (hr.mono h)⟩
theorem Env0.make {P : Program} {w : World} {K : PySem.W.Frag} {mg : Str → Option Value} {base : Heap} {A : Around} {outer : List Env} {s : Shared} {H : Hp} (e : Env0 P w K mg base A outer s H) (C : Addr) (us : List Value) (kw : List (Str × Value)) :
    Env0 P w K mg base (A.under (.builtin "type.__call__" ⟨.ref C :: us, kw⟩)) outer s H := ⟨by first | exact e.frames | (simpa [Around.under, Code.envs, Code.isFrame, pushEnvs] using e.frames), e.mod, e.bs, e.bsz, e.funs, e.frf, e.hok, e.bare⟩
section
variable {X : Cx} {pins : List (Addr × Obj)} {σ : St} {H : Hp} {s s' : Shared}
theorem Inv.env0 (I : Inv X pins σ H s) : Env0 X.prog X.w X.K X.mg X.base X.A X.stack s H :=
  ⟨I.ok.frames, I.ok.mod, I.bs, Nat.le_trans I.ok.bsz I.sz, I.stack, I.stkFree, I.hok, I.bare⟩
theorem Inv.after {Q : VK} {u : Value} (I : Inv X pins σ H s) (h : CE X.stack X.prog X.w H s Q u s') : EP X pins σ Q u s' := by
  obtain ⟨v, H', os, bare, un, hok, r, q⟩ := h
  obtain ⟨hh, g, d, t, os'⟩ := s'
  obtain rfl : os' = s.os := os
  exact ⟨v, H', I.call (h' := hh) (g' := g) (d' := d) (t' := t) (ch := []) un hok bare (fun b z => absurd z (by simp)), r, q⟩
end
def tCall (sp : Sp) (dvs : List V) (E : XK) (t : TA) : TE := fun σ H Q => t σ H fun vs H1 => sp (vs ++ dvs) H1 Q E
def tMeth (C : Addr) (m : Str) (sp : Sp) (dvs : List V) (E : XK) (ta : TE) (t : TA) : TE := fun σ H Q => ta σ H fun x H1 => ∃ a dx fs, x = .ref a ∧ H1 a = some (.ins C dx fs) ∧ fs.lookup m = none ∧
  t σ H1 fun vs H2 => sp (x :: (vs ++ dvs)) H2 Q E
def tMake (C : Addr) (sp : Sp) (dvs : List V) (E : XK) (t : TA) : TE := fun σ H Q => t σ H fun vs H1 => ∀ x dx, H1 x = none → H1 dx = none → dx ≠ x →
  sp (.ref x :: (vs ++ dvs)) (upd (upd H1 dx (.own x)) x (.ins C dx [])) (fun v H2 => v = .non ∧ Q (.ref x) H2) E
def Binds (K : PySem.W.Frag) (fd : FuncData) (ps : List Str) (ds : List Value) : Prop :=
  ∀ (s : Shared) (us : List Value), K.In s.heap → (us ++ ds).length = ps.length → BindsTo s fd ⟨us, []⟩ (ps.zip (us ++ ds))
theorem Binds.all {K : PySem.W.Frag} {fd : FuncData} {ps : List Str} (h : ∀ us : List Value, us.length = ps.length → bindArgs fd ⟨us, []⟩ = pure (ps.zip us)) : Binds K fd ps [] := fun s us _ hl => by
  rw [List.append_nil] at hl ⊢
  exact .of_eq (h us hl)
def Passes (CX : CXT) (X : Cx) (E : XK) : Prop := ∀ (pins : List (Addr × Obj)) (σ : St) (H : Hp) (s : Shared) (e : Value) (s' : Shared), Inv X pins σ H s → CX X.stack H s E e s' → X.xe e s'
section
variable {X : Cx} {CX : CXT} {k : Nat} {f C : Addr} {fd : FuncData} {ps : List Str} {sp : Sp} {dvs : List V} {ds : List Value} {E : XK} {x m : Str} {p pos apos : Pos} {e o : Expr} {es : List Expr} {ta : TE} {t : TA}
theorem run_fn {pins : List (Addr × Obj)} {σ : St} {H : Hp} {s : Shared} {Q : VK} {us : List Value} {vs : List V} (F : FnOk X.prog X.w X.K X.mg X.base CX k f fd ps sp) (hr : Room k X.A) (hb : Binds X.K fd ps ds) (hd : Vals dvs ds) (hx : Passes CX X E)
    (I : Inv X pins σ H s) (r : Vals vs us) (h : sp (vs ++ dvs) H Q E) : wpAny (model X.prog X.w) X.A (call (.ref f) us) (EP X pins σ Q) X.xe s := by
  have r2 : Vals (vs ++ dvs) (us ++ ds) := r.append hd
  have hl : (us ++ ds).length = ps.length := by rw [← r2.length]; exact F.len _ _ _ _ h
  refine wpAny_call (codeAny_mono (F.run X.A X.stack s H ⟨us, []⟩ (us ++ ds) (vs ++ dvs) Q E hr I.env0 (hb s us I.kIn hl) r2 h) fun r s' hq => ?_)
  cases r with
  | error e => exact hx pins σ H s e s' I hq
  | ok fl =>
    cases fl with
    | ret u => exact I.after hq
    | next => exact False.elim hq
    | brk => exact False.elim hq
    | cont => exact False.elim hq
theorem pe_call (F : FnOk X.prog X.w X.K X.mg X.base CX k f fd ps sp) (hr : Room k X.A) (hg : Gl X x) (hm : X.mg x = some (.ref f)) (hk : PySem.W.keepIn X.K (.ref f) = true) (hb : Binds X.K fd ps ds) (hd : Vals dvs ds) (hx : Passes CX X E)
    (ha : PA X (e :: es) t) (hdb : (x == ("__debug__" : Str)) = false := by decide) (he : starEach (e :: es) X.env = (false, eval e X.env) :: starEach es X.env := by rfl) (hpl : (backTo pos (starEach es X.env)).any (·.1) = false := by rfl) :
    PE X (.Call (.Name x p) (e :: es) [] pos) (tCall sp dvs E t) := by
  intro pins s σ H Q I h
  refine wpAny_Call_Name_kw (ld_glob I hg hm ?_ hdb)
  refine PySem.W.callWith_K (h₀ := X.base) I.ok.mod.kin hk (thn (ha pos pins s σ H _ I h) fun us s1 ⟨vs, H1, I1, r, q⟩ => ⟨I1.kIn, ?_⟩) he hpl
  exact run_fn F hr hb hd hx I1 r q
theorem pe_meth {pl : Sem Bool} (he : PE X o ta) (c : Cls X.K C) (hm : Meth X.K C m f) (F : FnOk X.prog X.w X.K X.mg X.base CX k f fd ps sp) (hr : Room k X.A) (hb : Binds X.K fd ps ds) (hd : Vals dvs ds) (hx : Passes CX X E) (ha : PA X (e :: es) t)
    (hst : starEach (e :: es) X.env = (false, eval e X.env) :: starEach es X.env := by rfl) (hpl : (backTo pos (starEach es X.env)).any (·.1) = false := by rfl)
    (ht : eval (.Call (.Attribute o m apos) (e :: es) [] pos) X.env = (do
      let ov ← eval o X.env
      standAt apos.atName
      let (f, first) ← holding [ov] (getMethod ov m pl)
      callWith pos f first (backTo pos (starEach (e :: es) X.env)) (backToKw pos (keywordEach [] X.env))) := by rfl) :
    PE X (.Call (.Attribute o m apos) (e :: es) [] pos) (tMeth C m sp dvs E ta t) := by
  intro pins s σ H Q I h
  refine PySem.W.methodCall_KW (pl := pl) (thn (he pins s σ H _ I h) fun u s1 ⟨x, H1, I1, rx, a, dx, fs, ex, ea, l, q⟩ => ?_) ht
  subst ex
  obtain rfl : u = Value.ref a := rx
  refine getmeth_ok I1 ea c hm l ?_
  refine PySem.W.callWith_K (first := [.ref a]) (h₀ := X.base) I.ok.mod.kin hm.kp (thn (ha pos pins s1 σ H1 _ I1 q) fun us s2 ⟨vs, H2, I2, r, q2⟩ => ⟨I2.kIn, ?_⟩) hst hpl
  exact run_fn (us := .ref a :: us) (vs := .ref a :: vs) F hr hb hd hx I2 (.cons rfl r) q2
theorem pe_meth0 {pl : Sem Bool} (he : PE X o ta) (c : Cls X.K C) (hm : Meth X.K C m f) (F : FnOk X.prog X.w X.K X.mg X.base CX k f fd ps sp) (hr : Room k X.A) (hb : Binds X.K fd ps ds) (hd : Vals dvs ds) (hx : Passes CX X E)
    (ht : eval (.Call (.Attribute o m apos) [] [] pos) X.env = (do
      let ov ← eval o X.env
      standAt apos.atName
      let (f, first) ← holding [ov] (getMethod ov m pl)
      callWith pos f first (backTo pos (starEach [] X.env)) (backToKw pos (keywordEach [] X.env))) := by rfl) :
    PE X (.Call (.Attribute o m apos) [] [] pos) (tMeth C m sp dvs E ta tNil) := by
  intro pins s σ H Q I h
  refine PySem.W.methodCall_KW (pl := pl) (thn (he pins s σ H _ I h) fun u s1 ⟨x, H1, I1, rx, a, dx, fs, ex, ea, l, q⟩ => ?_) ht
  subst ex
  obtain rfl : u = Value.ref a := rx
  refine getmeth_ok I1 ea c hm l ?_
  exact PySem.W.callWith_K0 (first := [.ref a]) I1.kIn hm.kp (run_fn (us := [.ref a]) (vs := [.ref a]) F hr hb hd hx I1 (.cons rfl .nil) q)
structure Mk (K : PySem.W.Frag) (C f : Addr) : Prop where
  makes : PySem.W.makesIn K C = true
  init : PySem.W.findIn K (.ref C) "__init__" = some (some (.ref f))
  fn : PySem.W.isFn K (.ref f) = true
  kp : PySem.W.keepIn K (.ref C) = true
theorem run_make {pins : List (Addr × Obj)} {σ : St} {H : Hp} {s : Shared} {Q : VK} {us : List Value} {vs : List V} (M : Mk X.K C f) (F : FnOk X.prog X.w X.K X.mg X.base CX k f fd ps sp) (hr : Room (k + 1) X.A) (hb : Binds X.K fd ps ds) (hd : Vals dvs ds)
    (hx : Passes CX X E) (I : Inv X pins σ H s) (r : Vals vs us)
    (h : ∀ x dx, H x = none → H dx = none → dx ≠ x → sp (.ref x :: (vs ++ dvs)) (upd (upd H dx (.own x)) x (.ins C dx [])) (fun v H2 => v = .non ∧ Q (.ref x) H2) E) :
    wpAny (model X.prog X.w) X.A (call (.ref C) us) (EP X pins σ Q) X.xe s := by
  have hq := h (s.heap.objs.size + 1) s.heap.objs.size (I.hok.fresh (Nat.le_succ _)) (I.hok.fresh (Nat.le_refl _)) (Nat.ne_of_lt (Nat.lt_succ_self _))
  have I2 := Inv.made (C := C) I
  have r2 : Vals (V.ref (s.heap.objs.size + 1) :: (vs ++ dvs)) (Value.ref (s.heap.objs.size + 1) :: (us ++ ds)) := .cons rfl (r.append hd)
  have hl : (Value.ref (s.heap.objs.size + 1) :: us ++ ds).length = ps.length := by
    have e := r2.length
    rw [F.len _ _ _ _ hq] at e
    exact e.symm
  refine wpAny_call (make_map (f := f) I.kIn M.makes M.init (beq_iff_eq.mp M.fn) (codeAny_mono (F.run _ X.stack _ _ ⟨Value.ref (s.heap.objs.size + 1) :: us, []⟩ (Value.ref (s.heap.objs.size + 1) :: (us ++ ds)) _ _ E (hr.make C us [])
    (I2.env0.make C us []) (hb _ (Value.ref (s.heap.objs.size + 1) :: us) I2.kIn hl) r2 hq) fun r s' hq' => ?_))
  cases r with
  | error e => exact hx pins σ _ _ e s' I2 hq'
  | ok fl =>
    cases fl with
    | ret u =>
      obtain ⟨v, H', I3, rv, ev, q3⟩ := I2.after hq'
      subst ev
      exact ⟨rv, ⟨V.ref (s.heap.objs.size + 1), H', I3, rfl, q3⟩⟩
    | next => exact False.elim hq'
    | brk => exact False.elim hq'
    | cont => exact False.elim hq'
theorem pe_make (M : Mk X.K C f) (F : FnOk X.prog X.w X.K X.mg X.base CX k f fd ps sp) (hr : Room (k + 1) X.A) (hg : Gl X x) (hm : X.mg x = some (.ref C)) (hb : Binds X.K fd ps ds) (hd : Vals dvs ds) (hx : Passes CX X E)
    (ha : PA X (e :: es) t) (hdb : (x == ("__debug__" : Str)) = false := by decide) (he : starEach (e :: es) X.env = (false, eval e X.env) :: starEach es X.env := by rfl) (hpl : (backTo pos (starEach es X.env)).any (·.1) = false := by rfl) :
    PE X (.Call (.Name x p) (e :: es) [] pos) (tMake C sp dvs E t) := by
  intro pins s σ H Q I h
  refine wpAny_Call_Name_kw (ld_glob I hg hm ?_ hdb)
  refine PySem.W.callWith_K (h₀ := X.base) I.ok.mod.kin M.kp (thn (ha pos pins s σ H _ I h) fun us s1 ⟨vs, H1, I1, r, q⟩ => ⟨I1.kIn, ?_⟩) he hpl
  exact run_make M F hr hb hd hx I1 r q
end
section
variable {X : Cx} {CX : CXT} {k : Nat} {f C : Addr} {fd : FuncData} {ps ks : List Str} {sp : Sp} {E : XK} {x m : Str} {p pos apos kpos : Pos} {e o : Expr} {es : List Expr} {kws : List Keyword} {te ta : TE} {t tk : TA} {nm : Option Str}
variable {g : List Value → List Value → List Value} {gV : List V → List V → List V}
end
structure FnScope (N P : List Str) (sc : Scope) : Prop where
  kind : sc.kind = .function
  co : sc.isCoroutine = false
  gen : sc.isGenerator = false
  nd : N.Nodup
  pre : N.take P.length = P
  par : ∀ x ∈ P, sc.names.lookup x = some .local ∨ sc.names.lookup x = some .cell
  nofree : ∀ y ∈ sc.names, y.2 ≠ .free
theorem bindL_out {kindOf : Str → Option NameKind} {x : Str} : ∀ {binds : List (Str × Value)} {m : Str → Option Value}, (∀ v, (x, v) ∉ binds) → bindL kindOf binds m x = m x
  | [], _, _ => rfl
  | (n, v) :: r, m, h => by
    unfold bindL
    rw [bindL_out fun w hw => h w (List.mem_cons_of_mem _ hw)]
    split
    · have : x ≠ n := by rintro rfl; exact h v List.mem_cons_self
      simp [this]
    · rfl
theorem bindC_out {kindOf : Str → Option NameKind} {x : Str} : ∀ {binds : List (Str × Value)} {m : Str → Option Value}, (∀ v, (x, v) ∉ binds) → bindC kindOf binds m x = m x
  | [], _, _ => rfl
  | (n, v) :: r, m, h => by
    unfold bindC
    rw [bindC_out fun w hw => h w (List.mem_cons_of_mem _ hw)]
    split
    · rfl
    · have : x ≠ n := by rintro rfl; exact h v List.mem_cons_self
      simp [this]
theorem bindL_get {kindOf : Str → Option NameKind} {x : Str} {v : Value} : ∀ {P : List Str} {vs : List Value} {i : Nat} {m : Str → Option Value}, P.Nodup → P[i]? = some x → vs[i]? = some v → kindOf x = some .local →
    bindL kindOf (P.zip vs) m x = some v
  | [], _, _, _, _, h, _, _ => by simp at h
  | _ :: _, [], _, _, _, _, h, _ => by simp at h
  | p :: P, w :: vs, 0, m, nd, h1, h2, hk => by
    simp at h1 h2; subst h1; subst h2
    show bindL kindOf ((p, w) :: P.zip vs) m p = _
    unfold bindL
    rw [bindL_out fun v hv => (List.nodup_cons.mp nd).1 (List.of_mem_zip hv).1, if_pos hk]
    simp
  | p :: P, w :: vs, i + 1, m, nd, h1, h2, hk => by
    show bindL kindOf ((p, w) :: P.zip vs) m x = _
    unfold bindL
    exact bindL_get (i := i) (List.nodup_cons.mp nd).2 (by simpa using h1) (by simpa using h2) hk
theorem bindC_get {kindOf : Str → Option NameKind} {x : Str} {v : Value} : ∀ {P : List Str} {vs : List Value} {i : Nat} {m : Str → Option Value}, P.Nodup → P[i]? = some x → vs[i]? = some v → kindOf x ≠ some .local →
    bindC kindOf (P.zip vs) m x = some v
  | [], _, _, _, _, h, _, _ => by simp at h
  | _ :: _, [], _, _, _, _, h, _ => by simp at h
  | p :: P, w :: vs, 0, m, nd, h1, h2, hk => by
    simp at h1 h2; subst h1; subst h2
    show bindC kindOf ((p, w) :: P.zip vs) m p = _
    unfold bindC
    rw [bindC_out fun v hv => (List.nodup_cons.mp nd).1 (List.of_mem_zip hv).1, if_neg hk]
    simp
  | p :: P, w :: vs, i + 1, m, nd, h1, h2, hk => by
    show bindC kindOf ((p, w) :: P.zip vs) m x = _
    unfold bindC
    exact bindC_get (i := i) (List.nodup_cons.mp nd).2 (by simpa using h1) (by simpa using h2) hk
def start (N : List Str) (vs : List V) : St := vs.map some ++ List.replicate (N.length - vs.length) none
def cxOf (CX : CXT) (P : Program) (w : World) (K : PySem.W.Frag) (mg : Str → Option Value) (base : Heap) (N : List Str) (qual : Str) (scope : Scope) (f : Addr) (cd : Value) (A : Around) (outer : List Env) (s : Shared) (H : Hp) (E : XK) : Cx where
  prog := P
  w := w
  K := K
  mg := mg
  base := base
  A := A.deeper (envOfC qual scope s.heap.objs.size f cd)
  N := N
  s_0 := s
  H_0 := H
  env := envOfC qual scope s.heap.objs.size f cd
  outer := outer
  stack := envOfC qual scope s.heap.objs.size f cd :: outer
  ex := []
  calm := true
  fn := fun _ => true
  pn := []
  xe := fun e s' => wpAny (model P w) (A.deeper (envOfC qual scope s.heap.objs.size f cd)) (leaving (envOfC qual scope s.heap.objs.size f cd) e) (fun _ s'' => CX outer H s E e s'') (fun e' s'' => CX outer H s E e' s'') s'
theorem cell_has {sc : Scope} {n : Nat} {x : Str} (h : sc.names.lookup x = some .cell) : ∃ c, (cellsFrom n sc.names []).lookup x = some c := by
  have q := PySem.W.cellsFrom_some sc.names n [] (.inl h)
  exact Option.isSome_iff_exists.mp q
theorem inv_start {CX : CXT} {P : Program} {w : World} {K : PySem.W.Frag} {mg : Str → Option Value} {base : Heap} {N ps : List Str} {qual : Str} {scope : Scope} {f : Addr} {cd : Value} {A : Around} {outer : List Env} {s s1 : Shared} {H : Hp} {E : XK} {us : List Value} {vs : List V}
    (S : FnScope N ps scope) (hd : A.handled = none) (e0 : Env0 P w K mg base A outer s H) (hl : vs.length = ps.length) (r : Vals vs us)
    (x : InCallC s s.heap.objs.size (bindL (envOfC qual scope s.heap.objs.size f cd).kindOf (ps.zip us) fun _ => none) (cellsFrom (s.heap.objs.size + 1) scope.names []) (bindC (envOfC qual scope s.heap.objs.size f cd).kindOf (ps.zip us) fun _ => none) s1) :
    Inv (cxOf CX P w K mg base N qual scope f cd A outer s H E) [] (start N vs) H s1 := by
  have hpl : ps.length ≤ N.length := by have := congrArg List.length S.pre; rw [List.length_take] at this; omega
  obtain ⟨h1, tk, rfl, hk⟩ := x.done
  have noA : ∀ b : Addr, b ∉ (cxOf CX P w K mg base N qual scope f cd A outer s H E).ex := fun b z => absurd (show b ∈ ([] : List Addr) from z) (by simp)
  refine ⟨⟨e0.mod, S.kind, rfl, rfl, Nat.le_refl _, fun y z c h1 h2 => ?_, fun y hy => ?_, fun y c _ h => ?_, fun _ => hd, Around.frames_deeper e0.frames, .inr ⟨rfl, rfl⟩, fun b z => absurd z (noA b), e0.bs, e0.bsz, fun b _ _ => noA b, fun b z => absurd z (noA b), e0.funs, e0.frf⟩,
    rfl, e0.bare, Un.kept hk, ⟨_, x.toInCall.ns, fun i y v h1 h2 h3 => ?_⟩, fun y c h => ⟨_, x.cell y c h⟩, e0.hok.fresh (Nat.le_refl _), fun y c h => ?_, fun p hp => absurd (show p ∈ ([] : List (Addr × Obj)) from hp) (by simp), e0.hok.kept hk, ?_⟩
  · exact name_of_addr x.apart (PySem.mem_of_lookup h1) (PySem.mem_of_lookup h2)
  · have hy : scope.names.lookup y = some .cell ∨ scope.names.lookup y = some .free := hy
    rcases hy with hy | hy
    · exact cell_has hy
    · exact absurd rfl (S.nofree _ (PySem.mem_of_lookup hy))
  · exact Nat.le_of_lt (x.above y c (PySem.mem_of_lookup h))
  · have hi : i < vs.length := by
      unfold start at h2
      by_cases hi : i < vs.length
      · exact hi
      · rw [List.getElem?_append_right (by simpa using hi)] at h2
        rw [List.getElem?_replicate] at h2
        split at h2 <;> cases h2
    have ha : vs[i]? = some v := by
      unfold start at h2
      rw [List.getElem?_append_left (by simpa using hi), List.getElem?_map] at h2
      cases e : vs[i]? with
      | none => rw [e] at h2; cases h2
      | some a => rw [e] at h2; cases h2; rfl
    obtain ⟨u, hu, rv⟩ := r.get ha
    have hp : ps[i]? = some y := by
      rw [← S.pre, List.getElem?_take_of_lt (by omega)]; exact h1
    have ndP : ps.Nodup := by rw [← S.pre]; exact S.nd.sublist (List.take_sublist _ _)
    refine ⟨u, rv, ?_⟩
    rcases S.par y (List.mem_of_getElem? hp) with k | k
    · exact .inl ⟨k, bindL_get ndP hp hu k⟩
    · obtain ⟨c, e⟩ := cell_has (n := s.heap.objs.size + 1) k
      refine .inr ⟨.inl k, c, e, ?_⟩
      have q := x.cell y c e
      rw [bindC_get ndP hp hu (by show scope.names.lookup y ≠ _; rw [k]; decide)] at q
      exact q
  · exact e0.hok.fresh (Nat.le_of_lt (x.above y c (PySem.mem_of_lookup h)))
  · unfold start
    show _ = N.length
    rw [List.length_append, List.length_map, List.length_replicate]
    omega
theorem fn_of {CX : CXT} {P : Program} {w : World} {K : PySem.W.Frag} {mg : Str → Option Value} {base : Heap} {k : Nat} {f : Addr} {name qual : Str} {params : Arguments} {body : List Stmt} {scope : Scope} {dV kV doc pm cdv ct oc : Value} {an od : Option Addr}
    {osl : Array (Option Value)} {N ps : List Str} {sp : Sp} (lk : K.lookup f = some ⟨oc, od, .func (PySem.W.fnOf name qual params body scope dV kV doc pm an cdv ct), osl⟩) (hcd : PySem.W.codeIn K cdv qual = true) (S : FnScope N ps scope)
    (len : ∀ vs H Q E, sp vs H Q E → vs.length = ps.length)
    (hbody : ∀ (A : Around) (outer : List Env) (s : Shared) (H : Hp) (vs : List V) (Q : VK) (E : XK), Room k (A.deeper (envOfC qual scope s.heap.objs.size f cdv)) → sp vs H Q E →
      ∃ t, PSs (cxOf CX P w K mg base N qual scope f cdv A outer s H E) body t ∧ t { nx := fun _ H' => Q .non H', rt := Q } (start N vs) H) :
    FnOk P w K mg base CX (k + 1) f (PySem.W.fnOf name qual params body scope dV kV doc pm an cdv ct) ps sp := by
  refine ⟨len, fun A outer s H args us vs Q E hr e0 hb r hsp => ?_⟩
  have hl := len _ _ _ _ hsp
  have KX : K.In s.heap := e0.mod.kin.keeps fun b o e => (e0.bs b o e).1
  have lim : s.heap.NoLimit := e0.mod.nolimit.keeps fun b o e => (e0.bs b o e).1
  have hkind : ∀ y ∈ ps.zip us, scope.names.lookup y.1 = some .local ∨ (scope.names.lookup y.1 = some .cell ∧ ((cellsFrom (s.heap.objs.size + 1) scope.names []).lookup y.1).isSome = true) := fun ⟨n, v⟩ hy => by
    rcases S.par n (List.of_mem_zip hy).1 with q | q
    · exact .inl q
    · exact .inr ⟨q, PySem.W.cellsFrom_some _ _ _ (.inl q)⟩
  refine codeAny_call_function hr.depth (KX _ _ lk) rfl S.co S.gen rfl (PySem.W.codeRec_of KX hcd) (hb _ _ _ _ ?_)
  refine wpAny_newFunctionEnv_cells S.kind hkind fun env he s1 x => ?_
  subst he
  refine ⟨lim.keeps x.toInCall.keep, codeAny_func ?_⟩
  obtain ⟨t, ht, hq⟩ := hbody A outer s H vs Q E (hr.deeper _) hsp
  have I : Inv (cxOf CX P w K mg base N qual scope f cdv A outer s H E) [] (start N vs) H s1 := inv_start S hr.hd e0 hl r x
  refine wpAny_mono (ht [] s1 (start N vs) H _ I hq) (fun fl s' hs => ?_) fun e s' hs => hs
  have fin : ∀ {σ' : St} {H' : Hp} {v : V} {u : Value}, Inv (cxOf CX P w K mg base N qual scope f cdv A outer s H E) [] σ' H' s' → RelV v u → Q v H' → CE outer P w H s Q u s' :=
    fun {σ' H' v u} J rv q => ⟨v, H', J.os, J.bare, J.base, J.hok, rv, q⟩
  cases fl with
  | ret u =>
    obtain ⟨v, σ', H', J, rv, q⟩ := hs
    exact fin J rv q
  | next =>
    obtain ⟨σ', H', J, q⟩ := hs
    exact fin (v := V.non) (u := Value.none) J rfl q
  | brk =>
    obtain ⟨_, _, _, q⟩ := hs
    exact False.elim q
  | cont =>
    obtain ⟨_, _, _, q⟩ := hs
    exact False.elim q
end L2
namespace L2
open PySem PySem.Spec PyProof.Rows
section
variable {X : Cx} {x : Str} {p pos : Pos} {e : Expr} {es : List Expr} {t : TA} {id T : String} {r : List V → Hp → VK → Prop}
def tCB (r : List V → Hp → VK → Prop) (t : TA) : TE := fun σ H Q => t σ H fun vs H1 => r vs H1 Q
theorem pe_callB (hc : CallR X (.builtin id) r) (hg : Gl X x) (hm : X.mg x = none) (hv : bootBuiltins x = some (.builtin id)) (ha : PA X (e :: es) t) (hn : x ≠ "__name__" := by decide) (hdb : (x == ("__debug__" : Str)) = false := by decide)
    (he : starEach (e :: es) X.env = (false, eval e X.env) :: starEach es X.env := by rfl) (hpl : (backTo pos (starEach es X.env)).any (·.1) = false := by rfl) : PE X (.Call (.Name x p) (e :: es) [] pos) (tCB r t) := by
  intro pins s σ H Q I h
  refine wpAny_Call_Name_kw (ld_blt I hg hm hv ?_ hn hdb)
  exact PyProof.Rows.callWith_builtin1 (thn (ha pos pins s σ H _ I h) fun us s1 ⟨vs, H1, I1, r1, q1⟩ => hc pins s1 σ H1 vs us Q I1 r1 q1) he hpl
end
end L2
namespace HT
open PySem PyProof.Rows
section
open PySem.SeqAt
open PySem.AutoSeq1 (wpAny_loadPart')
open PySem.MeetsSeq PySem.MeetsSeq2 PySem.MeetsSeq3
end
section
variable {prog : Program} {w : World} {A : Around} {E : Value → Shared → Prop} {s : Shared}
end
end HT
namespace L2
open PySem PySem.Spec PyProof.Rows
section
variable {X : Cx} {e : Expr} {te : TE} {lo hi : Option Expr} {tl th : TO} {pos p2 : Pos}
end
end L2
namespace L2
open PySem PySem.Spec PyProof.Rows
def ixN (n : Nat) (i : Int) : Option Nat := if 0 ≤ i then (if i < n then some i.toNat else none) else if -(n : Int) ≤ i then some (i + n).toNat else none
def atI {α : Type} (xs : List α) (i : Int) : Option α := (ixN xs.length i).bind fun j => xs[j]?
theorem ixN_seq {n : Nat} {i : Int} {j : Nat} (h : ixN n i = some j) : seqIndex? i n = some j ∧ j < n ∧ -(n : Int) ≤ i ∧ i < n := by
  unfold ixN at h
  by_cases h0 : 0 ≤ i
  · rw [if_pos h0] at h
    by_cases h1 : i < n
    · rw [if_pos h1] at h
      have e : i.toNat = j := Option.some.inj h
      exact ⟨by rw [seqIndex_of h0 h1, e], by omega, by omega, h1⟩
    · rw [if_neg h1] at h; cases h
  · rw [if_neg h0] at h
    by_cases h1 : -(n : Int) ≤ i
    · rw [if_pos h1] at h
      have e : (i + n).toNat = j := Option.some.inj h
      exact ⟨by rw [seqIndex_neg (by omega) h1, e], by omega, h1, by omega⟩
    · rw [if_neg h1] at h; cases h
theorem atI_get {α : Type} {xs : List α} {i : Int} {v : α} (h : atI xs i = some v) : ∃ j, seqIndex? i xs.length = some j ∧ xs[j]? = some v ∧ j < xs.length ∧ -(xs.length : Int) ≤ i ∧ i < xs.length := by
  unfold atI at h
  cases e : ixN xs.length i with
  | none => rw [e] at h; cases h
  | some j =>
    rw [e] at h
    obtain ⟨h1, h2, h3, h4⟩ := ixN_seq e
    exact ⟨j, h1, h, h2, h3, h4⟩
theorem atI_nat {α : Type} {xs : List α} {j : Nat} {v : α} (h : xs[j]? = some v) : atI xs (j : Int) = some v := by
  have hj : j < xs.length := (List.getElem?_eq_some_iff.mp h).1
  have e : ixN xs.length (j : Int) = some j := by
    unfold ixN
    rw [if_pos (by omega), if_pos (by omega)]; simp
  unfold atI; rw [e]; exact h
def PlainIx (b : Expr) : Prop := ∀ o i, subscripted b false o i = operate [o, i] (getItem o i)
def IxR (X : Cx) (r : R2) : Prop :=
  ∀ (value slice : Expr) (pins : List (Addr × Obj)) (s : Shared) (σ : St) (H : Hp) (x y : V) (v u : Value) (Q : VK), Inv X pins σ H s → RelV x v → RelV y u → r x y H Q →
    subscripted slice false v u = operate [v, u] (getItem v u) → wpAny (model X.prog X.w) X.A (subscriptTail value slice v u) (EP X pins σ Q) X.xe s
def MtR (X : Cx) (id : String) (r : V → List V → Hp → VK → Prop) : Prop :=
  ∀ (pins : List (Addr × Obj)) (s : Shared) (σ : St) (H : Hp) (x : V) (xs : List V) (v : Value) (us : List Value) (Q : VK), Inv X pins σ H s → RelV x v → Vals xs us → r x xs H Q →
    wpAny (model X.prog X.w) X.A (call (.builtin id) (v :: us)) (EP X pins σ Q) X.xe s
section
variable {X : Cx} {a b : Expr} {ta tb : TE} {pos : Pos}
theorem pe_ix {r : R2} (hr : IxR X r) (ha : PE X a ta) (hb : PE X b tb) (hs : PlainIx b) : PE X (.Subscript a b pos) (tOp r ta tb) := by
  intro pins s σ H Q I h
  exact Subscript_ (binT ha hb I h fun v u s2 x y H2 I2 rx ry q => hr a b pins s2 σ H2 x y v u Q I2 rx ry q (hs _ _))
def rIxL (K : PySem.W.Frag) : R2 := fun x y H Q => ∃ p xs i v, x = .ref p ∧ y = .int i ∧ SqL K H p xs ∧ atI xs i = some v ∧ Q v H
theorem ix_list : IxR X (rIxL X.K) := by
  intro value slice pins s σ H x y v u Q I rx ry h hs
  obtain ⟨p, xs, i, z, rfl, rfl, hq, he, q⟩ := h
  cases rx
  obtain ⟨t, rfl⟩ := ry
  obtain ⟨its, r, pl, hz⟩ := I.list hq
  obtain ⟨j, h1, h2, h3, h4, h5⟩ := atI_get he
  obtain ⟨w, ew, rw'⟩ := r.get h2
  have hl := r.length
  have hn := line63
  have fin : EP X pins σ Q w s := ⟨z, H, I, rw', q⟩
  by_cases h0 : 0 ≤ i
  · have hj : i.toNat = j := by
      rw [seqIndex_of h0 h5] at h1
      exact Option.some.inj h1
    exact item_listR pl.isList h0 (by omega) (by rw [hj]; simpa using ew) fin hs
  · have hj : (i + (its.toArray.size : Int)).toNat = j := by
      rw [seqIndex_neg (by omega) h4] at h1
      rw [List.size_toArray, ← hl]
      exact Option.some.inj h1
    exact subscriptTail_builtinR (x := w) pl.isList.typeIs slot_list_getitem.lookup
      (wpAny_getItem_list_neg (Q := fun r s' => r = w ∧ EP X pins σ Q r s') pl.isList (by omega) (by rw [List.size_toArray] <;> omega) (by omega) (by rw [hj]; simpa using ew) ⟨rfl, fin⟩) hs
theorem call_len_seq : CallR X (.builtin "len") (fun xs H Q => ∃ p ys, xs = [.ref p] ∧ (SqL X.K H p ys ∨ SqT X.K H p ys) ∧ Q (.int ys.length) H) := by
  intro pins s σ H xs us Q I r h
  obtain ⟨p, ys, rfl, hq, q⟩ := h
  obtain ⟨u, rfl, rx⟩ := vals1 r
  cases rx
  have hn := line63
  rcases hq with hq | hq
  · obtain ⟨its, r', pl, hz⟩ := I.list hq
    have hlen := r'.length
    exact Calls.call_len_list pl.isList (by simp only [List.size_toArray] <;> omega) ⟨.int ys.length, H, I.tok _, ⟨s.toks + 1, by rw [List.size_toArray, hlen]⟩, q⟩
  · obtain ⟨its, r', pl, hz⟩ := I.tuple hq
    have hlen := r'.length
    exact len_tuple pl (by simp only [List.size_toArray] <;> omega) ⟨.int ys.length, H, I.tok _, ⟨s.toks + 1, by rw [List.size_toArray, hlen]⟩, q⟩
def tyV (K : PySem.W.Frag) (T : String) (x : V) (H : Hp) : Prop := match x with
  | .str _ => T = "str"
  | .int _ => T = "int"
  | .ref p => (T = "list" ∧ ∃ xs, SqL K H p xs) ∨ (T = "tuple" ∧ ∃ o, K.lookup p = some o ∧ o.cls = .type "tuple" ∧ o.dict = none) ∨
      (T = "dict" ∧ ((∃ kvs, H p = some (.dK kvs)) ∨ ∃ kvs, H p = some (.dT kvs))) ∨ (T = "set" ∧ ∃ S n, H p = some (.set S n))
  | _ => False
theorem tyV_is {pins : List (Addr × Obj)} {σ : St} {H : Hp} {s : Shared} {T : String} {x : V} {v : Value} (I : Inv X pins σ H s) (r : RelV x v) (ty : tyV X.K T x H) :
    s.TypeIs v T ∧ ∀ a, v = .ref a → ∃ ob, s.heap.get? a = some ob ∧ ob.dict = none := by
  cases x with
  | str z =>
    obtain ⟨t, rfl⟩ := r
    cases (show T = "str" from ty)
    exact ⟨typeIs_str s z t, fun _ e => nomatch e⟩
  | int i =>
    obtain ⟨t, rfl⟩ := r
    cases (show T = "int" from ty)
    exact ⟨typeIs_int s i t, fun _ e => nomatch e⟩
  | ref p =>
    cases r
    rcases ty with ⟨rfl, xs, hq⟩ | ⟨rfl, o, hk, hc, hd⟩ | ⟨rfl, hk⟩ | ⟨rfl, S, n, hk⟩
    · obtain ⟨its, _, pl, _⟩ := I.list hq
      refine ⟨pl.isList.typeIs, fun a e => ?_⟩
      cases e
      obtain ⟨o, n, e, c, hd, _⟩ := pl
      exact ⟨o, e, hd⟩
    · refine ⟨⟨o, I.kIn p o hk, hc⟩, fun a e => ?_⟩
      cases e
      exact ⟨o, I.kIn _ o hk, hd⟩
    · have z : ∃ o, s.heap.get? p = some o ∧ o.ExactDict := by
        rcases hk with ⟨kvs, hk⟩ | ⟨kvs, hk⟩
        · obtain ⟨_, _, _, _, o, _, _, e, ex, _⟩ := I.hok p _ hk
          exact ⟨o, e, ex⟩
        · obtain ⟨_, _, _, _, o, _, _, e, ex, _⟩ := I.hok p _ hk
          exact ⟨o, e, ex⟩
      obtain ⟨o, e, ex⟩ := z
      refine ⟨⟨o, e, ex.1⟩, fun a e2 => ?_⟩
      cases e2
      exact ⟨o, e, ex.2.1⟩
    · obtain ⟨o, _, _, _, e, ex, _⟩ := I.hok p _ hk
      refine ⟨⟨o, e, ex.1⟩, fun a e2 => ?_⟩
      cases e2
      exact ⟨o, e, ex.2.1⟩
  | _ => exact False.elim ty
def tBM (K : PySem.W.Frag) (T : String) (r : V → List V → Hp → VK → Prop) (to : TE) (t : TA) : TE := fun σ H Q => to σ H fun x H1 => tyV K T x H1 ∧ t σ H1 fun xs H2 => r x xs H2 Q
variable {o e : Expr} {es : List Expr} {to : TE} {t : TA} {name : Str} {apos cpos : Pos} {T id : String} {r : V → List V → Hp → VK → Prop}
theorem pe_bm (pa : PlainAttrs T) (slot : Slot T name id) (hty : typeOf (.builtin id) = pure (.type "method_descriptor")) (hm : MtR X id r) (ho : PE X o to) (ha : PA X (e :: es) t)
    (hbase : attributeBase o name X.env (eval o X.env) = eval o X.env := by rfl)
    (hfew : ((backTo cpos (starEach (e :: es) X.env)).all (fun x => !x.1) && (backToKw cpos (keywordEach [] X.env)).all (fun x => x.1.isSome)
      && decide ((e :: es).length + ([] : List Keyword).length + (if ([] : List Keyword).isEmpty then 0 else 1) < 30)) = true := by rfl)
    (hline : (apos.endLine == cpos.line) = true := by rfl) (hs : starEach (e :: es) X.env = (false, eval e X.env) :: starEach es X.env := by rfl) (hplain : (backTo cpos (starEach es X.env)).any (·.1) = false := by rfl) :
    PE X (.Call (.Attribute o name apos) (e :: es) [] cpos) (tBM X.K T r to t) := by
  intro pins s σ H Q I h
  refine wpAny_Call_method_late hbase hfew hline rfl (thn (ho pins s σ H _ I h) fun v s1 ⟨x, H1, I1, r1, ty, q1⟩ => ?_)
  obtain ⟨h1, h2⟩ := tyV_is I1 r1 ty
  refine ⟨T, id, pa, slot, hty, h1, h2, ?_⟩
  have hA := ha cpos pins s1 σ H1 _ I1 q1
  rw [hs] at hA ⊢
  refine Calls.callWith_builtin (by show (false || (backTo cpos (starEach es X.env)).any (·.1)) = false; rw [hplain] <;> rfl) (Calls.evalArgs_plain ?_)
  exact thn hA fun us s2 ⟨vs, H2, I2, r2, q2⟩ => hm pins s2 σ H2 x vs v us Q I2 r1 r2 q2
end
end L2
namespace L2
open PySem PySem.Spec PyProof.Rows
def MtM (X : Cx) (id : String) (r : V → List V → Hp → VK → Prop) : Prop :=
  ∀ (pins : List (Addr × Obj)) (s : Shared) (σ : St) (H : Hp) (x : V) (xs : List V) (v : Value) (us : List Value) (Q : VK), Inv X pins σ H s → RelV x v → Vals xs us → r x xs H Q →
    wpAny (model X.prog X.w) X.A (call (.builtin id) (v :: us)) (EP X pins σ Q) X.xe s
theorem Vals.one : ∀ {x : V} {us : List Value}, Vals [x] us → ∃ u, us = [u] ∧ RelV x u
  | _, _, .cons r .nil => ⟨_, rfl, r⟩
theorem Vals.rep {xs : List V} {us : List Value} (h : Vals xs us) : ∀ k : Nat, Vals (List.replicate k xs).flatten (List.replicate k us).flatten
  | 0 => .nil
  | k + 1 => by
    rw [List.replicate_succ, List.replicate_succ, List.flatten_cons, List.flatten_cons]
    exact Vals.append h (Vals.rep h k)
theorem foldl_rep (its : List Value) : ∀ (k : Nat) (acc : List Value),
    List.foldl (fun x1 x2 => x1 ++ x2) acc.toArray (List.replicate k its.toArray) = (acc ++ (List.replicate k its).flatten).toArray
  | 0, acc => by simp
  | k + 1, acc => by
    have e : acc.toArray ++ its.toArray = (acc ++ its).toArray := by simp
    have e2 : (acc ++ its) ++ (List.replicate k its).flatten = acc ++ (List.replicate (k + 1) its).flatten := by
      rw [List.replicate_succ, List.flatten_cons, List.append_assoc]
    rw [← e2, ← foldl_rep its k (acc ++ its), ← e, List.replicate_succ, List.foldl_cons]
section
variable {X : Cx} {pins : List (Addr × Obj)} {σ : St} {H : Hp} {s : Shared} {l b : Addr} {xs ys zs : List V}
theorem Inv.lset {its its' : List Value} {n : Nat} {f : Array Value → Array Value} {t' : Nat} (I : Inv X pins σ H s) (hH : H l = some (.lst xs))
    (e : s.heap.get? l = some { cls := .type "list", data := .seq its.toArray n }) (hf : f its.toArray = its'.toArray) (hv : Vals ys its') (hz : ys.length ≤ sizeLine) :
    Inv X pins σ (upd H l (.lst ys)) { s with heap := s.heap.update l (Obj.mapSeq f), toks := t' } := by
  have q := PySem.IsL.update e f
  rw [hf] at q
  refine I.write (x := l) (e := l) (by rw [hH]; exact trivial) (.inl rfl) (fun b' u hb hu => (Heap.get?_update_other s.heap (Obj.mapSeq f) (Ne.symm hb)).trans hu) ⟨_, q⟩ ?_
  exact ⟨hz, its', _, hv, q⟩
theorem Inv.lnew {its : List Value} {t' : Nat} (I : Inv X pins σ H s) (hv : Vals ys its) (hz : ys.length ≤ sizeLine) :
    Inv X pins σ (upd H s.heap.objs.size (.lst ys)) { s with heap := s.heap.push { cls := .type "list", data := .seq its.toArray }, toks := t' } :=
  I.laid (fun _ _ q => Heap.get?_push_of_some _ q) (Nat.le_refl _) ⟨hz, its, 0, hv, Heap.get?_push_size _ rfl⟩
theorem Inv.fresh (I : Inv X pins σ H s) : H s.heap.objs.size = none := I.hok.fresh (Nat.le_refl _)
theorem Inv.lstM (I : Inv X pins σ H s) (hH : H l = some (.lst xs)) : xs.length ≤ sizeLine ∧ ∃ (its : List Value) (n : Nat), Vals xs its ∧ xs.length = its.length ∧ s.heap.get? l = some { cls := .type "list", data := .seq its.toArray n } := by
  obtain ⟨z, its, n, r, e⟩ := I.hok l _ hH
  exact ⟨z, its, n, r, r.length, e⟩
theorem notLongL {n : Nat} (h : n ≤ sizeLine) : Builtin.List.listTooLong n = false := by
  unfold Builtin.List.listTooLong
  exact decide_eq_false (by omega)
end
section
variable {X : Cx}
def rAppend : V → List V → Hp → VK → Prop := fun x vs H Q => ∃ l xs y, x = .ref l ∧ vs = [y] ∧ H l = some (.lst xs) ∧ xs.length < sizeLine ∧ Q .non (upd H l (.lst (xs ++ [y])))
theorem mt_append : MtM X "list.append" rAppend := by
  intro pins s σ H x vs v us Q I rx rv h
  obtain ⟨l, xs, y, rfl, rfl, hH, hz, q⟩ := h
  cases rx
  obtain ⟨u, rfl, ru⟩ := rv.one
  obtain ⟨z, its, n, r, hl, e⟩ := I.lstM hH
  refine call_meets F.slot_list_append ⟨_, e, rfl⟩ F.entry_list_append (F.args_list_append_2 _ _) (PySem.list_append l its.toArray n u (by rw [List.size_toArray]; omega)) ⟨e, ?_⟩
  refine ⟨.non, _, I.lset (its' := its ++ [u]) hH e (by simp) (r.append (.cons ru .nil)) ?_, rfl, q⟩
  rw [List.length_append, List.length_singleton]
  omega
def rCat : R2 := fun x y H Q => ∃ l b xs zs, x = .ref l ∧ y = .ref b ∧ H l = some (.lst xs) ∧ H b = some (.lst zs) ∧ xs.length + zs.length ≤ sizeLine ∧ ∀ p, H p = none → Q (.ref p) (upd H p (.lst (xs ++ zs)))
theorem op_cat : OpR X (binaryOp .Add) rCat := by
  intro pins s σ H x y v u Q I rx ry h
  obtain ⟨l, b, xs, zs, rfl, rfl, hH, hB, hz, q⟩ := h
  cases rx
  cases ry
  obtain ⟨z, its, n, r, hl, e⟩ := I.lstM hH
  obtain ⟨z2, its2, n2, r2, hl2, e2⟩ := I.lstM hB
  refine PySem.P.add_list e e2 ?_ (by rw [List.size_toArray, List.size_toArray]; omega)
  have ea : its.toArray ++ its2.toArray = (its ++ its2).toArray := by simp
  rw [ea]
  exact ⟨.ref _, _, I.lnew (t' := s.toks) (r.append r2) (by rw [List.length_append]; omega), rfl, q _ I.fresh⟩
def rRep : R2 := fun x y H Q => ∃ l k xs, x = .ref l ∧ y = .int k ∧ H l = some (.lst xs) ∧ -(2 ^ 63) ≤ k ∧ k < 2 ^ 63 ∧ xs.length * k.toNat ≤ sizeLine ∧
  ∀ p, H p = none → Q (.ref p) (upd H p (.lst (List.replicate k.toNat xs).flatten))
theorem len_rep {α : Type} (xs : List α) (k : Nat) : (List.replicate k xs).flatten.length = k * xs.length := by
  induction k with
  | zero => simp
  | succ k ih => rw [List.replicate_succ, List.flatten_cons, List.length_append, ih, Nat.succ_mul, Nat.add_comm]
theorem op_rep : OpR X (binaryOp .Mult) rRep := by
  intro pins s σ H x y v u Q I rx ry h
  obtain ⟨l, k, xs, rfl, rfl, hH, h1, h2, hz, q⟩ := h
  cases rx
  obtain ⟨t, rfl⟩ := ry
  obtain ⟨z, its, n, r, hl, e⟩ := I.lstM hH
  have hlen : its.toArray.size * k.toNat ≤ sizeLine := by rw [List.size_toArray, ← hl]; exact hz
  have hcap : ¬ its.toArray.size * k.toNat > (2 ^ 63 - 1) / 8 := by
    have : (sizeLine : Nat) ≤ (2 ^ 63 - 1) / 8 := by decide
    omega
  have hfit : ¬ (!Builtin.List.listFitsIndex k) = true := by
    rw [fitsIndex_both h1 h2]
    exact Bool.false_ne_true
  have hlong : ¬ Builtin.List.listTooLong (its.toArray.size * k.toNat) = true := by
    rw [notLongL hlen]
    exact Bool.false_ne_true
  have hnew : List.foldl (fun x1 x2 => x1 ++ x2) #[] (List.replicate (if its.toArray.isEmpty = true then 0 else k.toNat) its.toArray) = (List.replicate k.toNat its).flatten.toArray := by
    have f0 : ∀ m : Nat, List.foldl (fun x1 x2 => x1 ++ x2) #[] (List.replicate m its.toArray) = (List.replicate m its).flatten.toArray := fun m => by
      have := foldl_rep its m []
      rw [List.nil_append] at this
      exact this
    rw [f0]
    cases its with
    | nil => simp
    | cons a r' => rw [if_neg (by simp)]
  refine wpAny_binaryOp_repeat_ref (T := "list") (U := "int") (by decide) ⟨_, e, rfl⟩ (fun s' => typeIs_int s' k t) noFill_list_mul F.fills_int_mul F.slot_int_rmul repeat_list F.slot_int_index.lookup
    (call_meets F.slot_int_rmul (typeIs_int s k t) F.entry_int_rmul (F.args_int_rmul_2 _ _) (int___rmul___int_list k t l its.toArray n)
      ⟨e, rfl, ⟨_, e, rfl⟩, call_meets F.slot_list_mul ⟨_, e, rfl⟩ F.entry_list_mul (F.args_list_mul_2 _ _) (AutoListH.list___mul___list_int_3 l its.toArray n k t hfit hcap hlong) ⟨e, ?_⟩⟩)
  rw [hnew]
  exact ⟨.ref _, _, I.lnew (t' := s.toks) (r.rep k.toNat) (by rw [len_rep, Nat.mul_comm]; exact hz), rfl, q _ I.fresh⟩
end
section
variable {prog : Program} {w : World} {A : Around} {E : Value → Shared → Prop} {s : Shared}
end
section
variable {X : Cx}
end
end L2
namespace L2
open PySem PySem.Spec PyProof.Rows
theorem Vals.ints : ∀ {ns : List Int} {us : List Value}, Vals (ns.map V.int) us → IntsAre us ns
  | [], us, h => by
    rw [List.map_nil] at h
    cases h
    exact IntsAre.nil
  | n :: ns, us, h => by
    rw [List.map_cons] at h
    cases h with
    | cons r t =>
      obtain ⟨k, rfl⟩ := r
      exact IntsAre.cons n k (Vals.ints t)
theorem Vals.ref1 {a : Addr} {us : List Value} (r : Vals [V.ref a] us) : us = [Value.ref a] := by
  cases r with
  | cons r t =>
    cases t
    cases r
    rfl
section
variable {prog : Program} {w : World} {A : Around} {E : Value → Shared → Prop} {s : Shared} {l : Addr} {its : List Value} {ns : List Int} {Q : Value → Shared → Prop}
theorem sum_raw (hh : A.handled = none) (hl : s.heap.IsList l its.toArray) (hi : IntsAre its ns)
    (h : ∀ h' tk t', (∀ b o, s.heap.get? b = some o → h'.get? b = some o) → Q (.int ns.sum t') { s with heap := h', toks := tk }) : wpAny (model prog w) A (call (.builtin "sum") [.ref l]) Q E s := by
  obtain ⟨xs, e⟩ := hi.allInts.items
  have hn : numsOf (intItems xs).toList = ns := by rw [← e]; exact hi.numsOf
  rw [nums_intItems] at hn
  rw [e] at hl
  refine PySem.sum_intListG hh hl fun h' tk t' hk => ?_
  have := h h' tk t' hk
  rw [preSum_eq, List.take_of_length_le (by simp), hn]; exact this
end
section
variable {X : Cx}
def rSum (K : PySem.W.Frag) : List V → Hp → VK → Prop := fun vs H Q => ∃ (a : Addr) (ns : List Int), vs = [V.ref a] ∧ SqL K H a (ns.map V.int) ∧ Q (.int ns.sum) H
theorem cr_sum (hc : X.calm = true) : CallR X (.builtin "sum") (rSum X.K) := by
  intro pins s σ H vs us Q I r h
  obtain ⟨a, ns, rfl, hs, q⟩ := h
  obtain ⟨its, rv, hl, _⟩ := I.list hs
  rw [Vals.ref1 r]
  exact sum_raw (I.ok.hd hc) hl.isList rv.ints fun h' tk t' hk => ⟨.int _, H, I.kept hk, ⟨_, rfl⟩, q⟩
end
section
variable {X : Cx}
end
section
variable {X : Cx}
end
section
variable {X : Cx}
end
mutual
inductive Dp (K : PySem.W.Frag) (H : Hp) : V → PyData → Prop
  | non : Dp K H .non .none
  | bl (b : Bool) : Dp K H (.bl b) (.bool b)
  | int (i : Int) : Dp K H (.int i) (.int i)
  | str (x : Str) : Dp K H (.str x) (.str x)
  | lst {a : Addr} {xs : List V} {ds : List PyData} : SqL K H a xs → DpAll K H xs ds → Dp K H (.ref a) (.list ds)
  | tup {a : Addr} {xs : List V} {ds : List PyData} : SqT K H a xs → DpAll K H xs ds → Dp K H (.ref a) (.tuple ds)
inductive DpAll (K : PySem.W.Frag) (H : Hp) : List V → List PyData → Prop
  | nil : DpAll K H [] []
  | cons {v : V} {vs : List V} {d : PyData} {ds : List PyData} : Dp K H v d → DpAll K H vs ds → DpAll K H (v :: vs) (d :: ds)
end
section
variable {X : Cx} {pins : List (Addr × Obj)} {σ : St} {H : Hp} {s : Shared}
mutual
theorem Dp.reads (I : Inv X pins σ H s) : ∀ (d : PyData) (v : V) (u : Value), Dp X.K H v d → RelV v u → ∃ as, Reads s.heap u d as
  | .none, _, _, h, r => by
    cases h
    cases r
    exact ⟨_, Reads.none⟩
  | .bool b, _, _, h, r => by
    cases h
    cases r
    exact ⟨_, Reads.bool b⟩
  | .int i, _, _, h, r => by
    cases h
    obtain ⟨t, rfl⟩ := r
    exact ⟨_, Reads.int i t⟩
  | .str x, _, _, h, r => by
    cases h
    obtain ⟨t, rfl⟩ := r
    exact ⟨_, Reads.str x t⟩
  | .list ds, _, _, h, r => by
    cases h with
    | lst hs ha =>
      cases r
      obtain ⟨its, rv, ⟨o, n, ho, hc, _, hd⟩, _⟩ := I.list hs
      obtain ⟨as, hr⟩ := Dp.readsAll I ds _ its ha rv
      exact ⟨_, Reads.list ho hc hd hr⟩
  | .tuple ds, _, _, h, r => by
    cases h with
    | tup hs ha =>
      cases r
      obtain ⟨its, rv, ⟨o, ho, hc, n, hd⟩, _⟩ := I.tuple hs
      obtain ⟨as, hr⟩ := Dp.readsAll I ds _ its ha rv
      exact ⟨_, Reads.tuple ho hc hd hr⟩
  | .dict _, _, _, h, _ => by cases h
theorem Dp.readsAll (I : Inv X pins σ H s) : ∀ (ds : List PyData) (vs : List V) (us : List Value), DpAll X.K H vs ds → Vals vs us → ∃ as, ReadsAll s.heap us ds as
  | [], _, _, h, r => by
    cases h
    cases r
    exact ⟨_, ReadsAll.nil⟩
  | d :: ds, _, _, h, r => by
    cases h with
    | cons h1 h2 =>
      cases r with
      | cons r1 r2 =>
        obtain ⟨as, q1⟩ := Dp.reads I d _ _ h1 r1
        obtain ⟨bs, q2⟩ := Dp.readsAll I ds _ _ h2 r2
        exact ⟨_, ReadsAll.cons q1 q2⟩
end
end
section
variable {X : Cx}
end
end L2
namespace L2
open PySem PySem.Spec PyProof.Rows
abbrev CellAt (h : Heap) (c : Addr) (v : Option Value) : Prop := h.IsCell c v
def relS (scope sc : Scope) : Scope :=
  { scope with names := scope.names.map fun (n, k) => if (k == .free && sc.kind == .function && sc.names.lookup n == some .cell) then (n, .cell) else (n, k) }
def cloFrom (cells : List (Str × Addr)) : List (Str × NameKind) → List (Str × Addr) → List (Str × Addr)
  | [], acc => acc
  | (n, k) :: r, acc => if k == .free then cloFrom cells r ((n, (cells.lookup n).getD 0) :: acc) else cloFrom cells r acc
theorem closure_loop (env : Env) (f : Str × NameKind → List (Str × Addr) → Sem (ForInStep (List (Str × Addr))))
    (hf : ∀ n k c, f (n, k) c = if k == .free then (do let a ← cellOf env n; pure (.yield ((n, a) :: c))) else pure (.yield c)) :
    ∀ (names : List (Str × NameKind)) (acc : List (Str × Addr)), (∀ y ∈ names, y.2 = .free → ∃ c, env.cells.lookup y.1 = some c) → forIn names acc f = pure (cloFrom env.cells names acc)
  | [], acc, _ => by rw [List.forIn_nil]; rfl
  | (n, k) :: r, acc, h => by
    rw [List.forIn_cons, hf]
    have ih := fun acc => closure_loop env f hf r acc fun y hy => h y (List.mem_cons_of_mem _ hy)
    unfold cloFrom
    by_cases hk : (k == NameKind.free) = true
    · rw [if_pos hk, if_pos hk]
      obtain ⟨c, hc⟩ := h (n, k) List.mem_cons_self (by simpa using hk)
      have e : cellOf env n = pure c := by unfold cellOf; rw [hc]
      rw [e]
      have e2 : (env.cells.lookup n).getD 0 = c := by rw [hc]; rfl
      rw [e2]
      exact ih _
    · rw [if_neg hk, if_neg hk]
      exact ih _
theorem closure_ok {scope : Scope} {env : Env} (h : ∀ y ∈ scope.names, y.2 = .free → ∃ c, env.cells.lookup y.1 = some c) : closureFor scope env = pure (cloFrom env.cells scope.names []) := by
  simp only [closureFor]
  rw [closure_loop env _ (fun n k c => rfl) scope.names [] h]
  rfl
theorem mem_lookup {α : Type} : ∀ {l : List (Str × α)} {n : Str} {c : α}, (n, c) ∈ l → ∃ c', l.lookup n = some c'
  | (k, v) :: r, n, c, h => by
    rw [List.lookup_cons]
    cases hb : n == k with
    | true => exact ⟨_, rfl⟩
    | false =>
      rcases List.mem_cons.mp h with e | h
      · cases e; simp at hb
      · exact mem_lookup h
theorem cloFrom_mem {cells : List (Str × Addr)} : ∀ {names : List (Str × NameKind)} {acc : List (Str × Addr)} {n : Str} {c : Addr}, (n, c) ∈ cloFrom cells names acc → (n, c) ∈ acc ∨ ((n, .free) ∈ names ∧ c = (cells.lookup n).getD 0)
  | [], _, _, _, h => .inl h
  | (m, k) :: r, acc, n, c, h => by
    unfold cloFrom at h
    split at h
    · rename_i hk
      have hk : k = .free := by simpa using hk
      rcases cloFrom_mem h with h | ⟨h1, h2⟩
      · rcases List.mem_cons.mp h with e | h
        · cases e; exact .inr ⟨hk ▸ List.mem_cons_self, rfl⟩
        · exact .inl h
      · exact .inr ⟨List.mem_cons_of_mem _ h1, h2⟩
    · rcases cloFrom_mem h with h | ⟨h1, h2⟩
      · exact .inl h
      · exact .inr ⟨List.mem_cons_of_mem _ h1, h2⟩
theorem cloFrom_acc {cells : List (Str × Addr)} : ∀ {names : List (Str × NameKind)} {acc : List (Str × Addr)} {p : Str × Addr}, p ∈ acc → p ∈ cloFrom cells names acc
  | [], _, _, h => h
  | (m, k) :: r, acc, p, h => by
    unfold cloFrom
    split
    · exact cloFrom_acc (List.mem_cons_of_mem _ h)
    · exact cloFrom_acc h
theorem cloFrom_has {cells : List (Str × Addr)} : ∀ {names : List (Str × NameKind)} {acc : List (Str × Addr)} {n : Str}, (n, .free) ∈ names → (n, (cells.lookup n).getD 0) ∈ cloFrom cells names acc
  | (m, k) :: r, acc, n, h => by
    unfold cloFrom
    rcases List.mem_cons.mp h with e | h
    · cases e
      exact cloFrom_acc List.mem_cons_self
    · split
      · exact cloFrom_has h
      · exact cloFrom_has h
theorem cells_mem : ∀ {names : List (Str × NameKind)} {h : Heap} {acc : List (Str × Addr)} {x : Str} {c : Addr}, (x, c) ∈ cellsFrom h.objs.size names acc →
    (x, c) ∈ acc ∨ ((x, .cell) ∈ names ∧ h.objs.size ≤ c ∧ CellAt (pushCells h names) c none)
  | [], _, _, _, _, h => .inl h
  | (n, k) :: r, h, acc, x, c, hm => by
    unfold cellsFrom at hm
    unfold pushCells
    split at hm
    · rename_i hk
      rw [if_pos hk]
      have hk : k = .cell := by simpa using hk
      rw [← Heap.size_push h { cls := .type "cell", data := .cell none }] at hm
      rcases cells_mem hm with hm | ⟨h1, h2, h3⟩
      · rcases List.mem_cons.mp hm with e | hm
        · cases e
          exact .inr ⟨hk ▸ List.mem_cons_self, Nat.le_refl _, _, pushCells_keeps r _ _ _ (Heap.get?_push_size _ rfl), rfl⟩
        · exact .inl hm
      · rw [Heap.size_push] at h2
        exact .inr ⟨List.mem_cons_of_mem _ h1, Nat.le_of_succ_le h2, h3⟩
    · rename_i hk
      rw [if_neg hk]
      rcases cells_mem hm with hm | ⟨h1, h2, h3⟩
      · exact .inl hm
      · exact .inr ⟨List.mem_cons_of_mem _ h1, h2, h3⟩
theorem cells_acc : ∀ {names : List (Str × NameKind)} {n : Nat} {acc : List (Str × Addr)} {p : Str × Addr}, p ∈ acc → p ∈ cellsFrom n names acc
  | [], _, _, _, h => h
  | (m, k) :: r, n, acc, p, h => by
    unfold cellsFrom
    split
    · exact cells_acc (List.mem_cons_of_mem _ h)
    · exact cells_acc h
theorem cells_has : ∀ {names : List (Str × NameKind)} {n : Nat} {acc : List (Str × Addr)} {x : Str}, (x, .cell) ∈ names → ∃ c, (x, c) ∈ cellsFrom n names acc
  | (m, k) :: r, n, acc, x, h => by
    unfold cellsFrom
    rcases List.mem_cons.mp h with e | h
    · cases e
      exact ⟨n, cells_acc List.mem_cons_self⟩
    · split
      · exact cells_has h
      · exact cells_has h
theorem cells_inj : ∀ {names : List (Str × NameKind)} {h : Heap} {acc : List (Str × Addr)} {x y : Str} {c : Addr}, (∀ p ∈ acc, p.2 < h.objs.size) → (∀ x y c, (x, c) ∈ acc → (y, c) ∈ acc → x = y) →
    (x, c) ∈ cellsFrom h.objs.size names acc → (y, c) ∈ cellsFrom h.objs.size names acc → x = y
  | [], _, _, _, _, _, _, hi, h1, h2 => hi _ _ _ h1 h2
  | (n, k) :: r, h, acc, x, y, c, hl, hi, h1, h2 => by
    unfold cellsFrom at h1 h2
    split at h1
    · rename_i hk
      rw [if_pos hk] at h2
      rw [← Heap.size_push h { cls := .type "cell", data := .cell none }] at h1 h2
      refine cells_inj (h := h.push _) (fun p hp => ?_) (fun x y c a b => ?_) h1 h2
      · rw [Heap.size_push]
        rcases List.mem_cons.mp hp with rfl | hp
        · exact Nat.lt_succ_self _
        · exact Nat.lt_succ_of_lt (hl p hp)
      · rcases List.mem_cons.mp a with e | a <;> rcases List.mem_cons.mp b with e' | b
        · cases e; cases e'; rfl
        · cases e; exact absurd (hl _ b) (Nat.lt_irrefl _)
        · cases e'; exact absurd (hl _ a) (Nat.lt_irrefl _)
        · exact hi _ _ _ a b
    · rename_i hk
      rw [if_neg hk] at h2
      exact cells_inj hl hi h1 h2
theorem newEnv_comp {M : Model} {A : Around} {E : Value → Shared → Prop} {s : Shared} {scope : Scope} {globals : Addr} {closure : List (Str × Addr)} {qual : Str} {func : Option Addr} {code : Value} {around : Env} {builtins : Addr} {Q : Env → Shared → Prop}
    (h : Q (newEnv scope s.heap.objs.size globals (cellsFrom (s.heap.objs.size + 1) scope.names closure) qual func code (some around) builtins)
      { s with heap := pushCells (s.heap.push { cls := .type "dict", data := .dict #[] }) scope.names }) :
    wpAny M A (newFunctionEnv scope globals closure [] qual func code (some around) builtins) Q E s := by
  simp only [newFunctionEnv, Option.isSome_some, if_true]
  refine wpAny_bind (wpAny_alloc ?_)
  refine wpAny_bind (wpAny_layCells _ (fun n k c => rfl) scope.names closure _ _ ?_)
  rw [show ({ s with heap := s.heap.push { cls := .type "dict", data := .dict #[] } } : Shared).heap.objs.size = s.heap.objs.size + 1 from Heap.size_push ..]
  rw [List.forIn_nil]
  exact wpAny_bind (wpAny_pure (wpAny_pure h))
theorem lookup_relS {sc : Scope} : ∀ {names : List (Str × NameKind)} {x : Str} {k : NameKind},
    (names.map fun (n, k) => if (k == NameKind.free && sc.kind == .function && sc.names.lookup n == some .cell) then (n, NameKind.cell) else (n, k)).lookup x = some k →
    ∃ k', names.lookup x = some k' ∧ (k = k' ∨ (k' = .free ∧ k = .cell))
  | [], _, _, h => by simp at h
  | (n, k₀) :: r, x, k, h => by
    have ih := @lookup_relS sc r x k
    have h' : List.lookup x ((if (k₀ == NameKind.free && sc.kind == .function && sc.names.lookup n == some .cell) = true then (n, NameKind.cell) else (n, k₀)) :: (r.map _)) = some k := h
    cases hx : x == n with
    | true =>
      simp only [List.lookup_cons, hx]
      by_cases hc : (k₀ == NameKind.free && sc.kind == .function && sc.names.lookup n == some .cell) = true
      · rw [if_pos hc] at h'
        simp only [List.lookup_cons, hx] at h'
        cases h'
        simp only [Bool.and_eq_true, beq_iff_eq] at hc
        exact ⟨k₀, rfl, .inr ⟨hc.1.1, rfl⟩⟩
      · rw [if_neg hc] at h'
        simp only [List.lookup_cons, hx] at h'
        cases h'
        exact ⟨_, rfl, .inl rfl⟩
    | false =>
      simp only [List.lookup_cons, hx]
      by_cases hc : (k₀ == NameKind.free && sc.kind == .function && sc.names.lookup n == some .cell) = true
      · rw [if_pos hc] at h'
        simp only [List.lookup_cons, hx] at h'
        exact ih h'
      · rw [if_neg hc] at h'
        simp only [List.lookup_cons, hx] at h'
        exact ih h'
structure BlkOk (N : List Str) (sc scope : Scope) (own : List (Str × Nat)) : Prop where
  kind : scope.kind = .function
  uniq : ∀ y ∈ scope.names, scope.names.lookup y.1 = some y.2
  ix : ∀ p ∈ own, N[p.2]? = some p.1
  free : ∀ y ∈ scope.names, y.2 = .free → sc.names.lookup y.1 = some .cell ∨ sc.names.lookup y.1 = some .free
  own : ∀ y ∈ scope.names, y.2 = .local ∨ y.2 = .cell → y.1 ∈ own.map (·.1) ∨ y.1 ∉ N
def wipe (σ : St) : List Nat → St
  | [] => σ
  | v :: vs => (wipe σ vs).set v none
theorem wipe_length (σ : St) : ∀ vs : List Nat, (wipe σ vs).length = σ.length
  | [] => rfl
  | v :: vs => by unfold wipe; rw [List.length_set, wipe_length σ vs]
theorem wipe_some {σ : St} {i : Nat} {x : V} : ∀ {vs : List Nat}, (wipe σ vs)[i]? = some (some x) → σ[i]? = some (some x) ∧ i ∉ vs
  | [], h => ⟨h, by simp⟩
  | v :: vs, h => by
    unfold wipe at h
    by_cases hi : v = i
    · subst hi
      by_cases hv : v < (wipe σ vs).length
      · rw [List.getElem?_set_self hv] at h; cases h
      · rw [List.getElem?_eq_none (by simpa using hv)] at h; cases h
    · rw [List.getElem?_set_ne hi] at h
      obtain ⟨h1, h2⟩ := wipe_some h
      exact ⟨h1, by simp only [List.mem_cons, not_or]; exact ⟨fun e => hi e.symm, h2⟩⟩
abbrev Cx.blk (X : Cx) (s : Shared) (H : Hp) (scope : Scope) (cenv : Env) (fp : List Addr) : Cx := { X with s_0 := s, H_0 := H, env := cenv, outer := X.stack, ex := fp, fn := fun x => scope.names.lookup x == some .cell, pn := [], xe := fun _ _ => False }
section
variable {X : Cx} {pins : List (Addr × Obj)} {σ : St} {H : Hp} {s : Shared}
theorem block_start {scope : Scope} {own : List (Str × Nat)} {fp : List Addr} (I : Inv X pins σ H s) (ok : BlkOk X.N X.env.scope scope own) (hN : X.N.Nodup) (hfp : ∀ b ∈ fp, FpOk X pins H b ∧ b < s.heap.objs.size) :
    Inv (X.blk s H scope (compEnvC scope (cellsFrom (s.heap.objs.size + 1) scope.names (cloFrom X.env.cells scope.names [])) s.heap.objs.size X.env) fp) [] (wipe σ (own.map (·.2))) H { s with heap := pushCells (s.heap.push { cls := .type "dict", data := .dict #[] }) scope.names } := by
  have hfree : ∀ y ∈ scope.names, y.2 = .free → ∃ c, X.env.cells.lookup y.1 = some c := fun y hy e => by
    rcases ok.free y hy e with k | k
    · exact I.ok.has _ (.inl k)
    · exact I.ok.has _ (.inr k)
  generalize hcenv : compEnvC scope (cellsFrom (s.heap.objs.size + 1) scope.names (cloFrom X.env.cells scope.names [])) s.heap.objs.size X.env = cenv
  have kp : ∀ b o, s.heap.get? b = some o → (pushCells (s.heap.push { cls := .type "dict", data := .dict #[] }) scope.names).get? b = some o := fun b o e => pushCells_keeps _ _ _ _ (Heap.get?_push_of_some _ e)
  have hL : cenv.locals = s.heap.objs.size := by rw [← hcenv]; rfl
  have hcl : cenv.cells = cellsFrom (s.heap.objs.size + 1) scope.names (cloFrom X.env.cells scope.names []) := by rw [← hcenv]; rfl
  have hsc : cenv.scope = relS scope X.env.scope := by rw [← hcenv]; rfl
  rw [← Heap.size_push s.heap { cls := .type "dict", data := .dict #[] }] at hcl
  have cm : ∀ {y c}, (y, c) ∈ cloFrom X.env.cells scope.names [] → X.env.cells.lookup y = some c ∧ c < s.heap.objs.size := fun {y c} hm => by
    rcases cloFrom_mem hm with hm | ⟨h1, rfl⟩
    · cases hm
    · obtain ⟨c, hc⟩ := hfree _ h1 rfl
      rw [hc]
      obtain ⟨w, z⟩ := I.cell _ _ hc
      exact ⟨rfl, z.lt⟩
  have mem : ∀ {y c}, cenv.cells.lookup y = some c → (X.env.cells.lookup y = some c ∧ c < s.heap.objs.size) ∨ (s.heap.objs.size + 1 ≤ c ∧ CellAt (pushCells (s.heap.push { cls := .type "dict", data := .dict #[] }) scope.names) c none) := fun {y c} e => by
    rw [hcl] at e
    rcases cells_mem (PySem.mem_of_lookup e) with hm | ⟨_, h2, h3⟩
    · exact .inl (cm hm)
    · rw [Heap.size_push] at h2; exact .inr ⟨h2, h3⟩
  have look : ∀ {y}, scope.names.lookup y = some .free → ∃ c, cenv.cells.lookup y = some c ∧ X.env.cells.lookup y = some c := fun {y} hl => by
    have hy : (y, NameKind.free) ∈ scope.names := PySem.mem_of_lookup hl
    obtain ⟨c', e'⟩ := mem_lookup (cells_acc (names := scope.names) (n := (s.heap.push { cls := .type "dict", data := .dict #[] }).objs.size) (cloFrom_has (cells := X.env.cells) (acc := []) hy))
    rw [← hcl] at e'
    refine ⟨c', e', ?_⟩
    rw [hcl] at e'
    rcases cells_mem (PySem.mem_of_lookup e') with hm | ⟨h1, _, _⟩
    · exact (cm hm).1
    · have := ok.uniq _ h1
      rw [hl] at this; cases this
  have okB : (X.blk s H scope cenv fp).Ok := by
    refine ⟨I.ok.mod, by show cenv.scope.kind = _; rw [hsc]; exact ok.kind, by show cenv.globals = _; rw [← hcenv]; exact I.ok.glob, by show cenv.builtins = _; rw [← hcenv]; exact I.ok.blt, by show s.heap.objs.size ≤ cenv.locals; rw [hL]; exact Nat.le_refl _,
      fun y z c e1 e2 => ?_, fun y hy => ?_, fun y c z e => ?_, I.ok.hd, I.ok.frames, .inl rfl, fun b hb => ⟨?_, fun y c e z => ?_⟩, I.bs, Nat.le_trans I.ok.bsz I.sz, fun b o e hb => ?_, fun b hb z => ?_, I.stack, I.stkFree⟩
    · have e1 : cenv.cells.lookup y = some c := e1
      have e2 : cenv.cells.lookup z = some c := e2
      rw [hcl] at e1 e2
      refine cells_inj (fun p hp => ?_) (fun y z c a b => I.ok.inj y z c (cm a).1 (cm b).1) (PySem.mem_of_lookup e1) (PySem.mem_of_lookup e2)
      rw [Heap.size_push]
      exact Nat.lt_succ_of_lt (cm (y := p.1) (c := p.2) hp).2
    · show ∃ c, cenv.cells.lookup y = some c
      have key : ∀ k, cenv.kindOf y = some k → (k = .cell ∨ k = .free) → ∃ c, cenv.cells.lookup y = some c := fun k hk hk' => by
        unfold Env.kindOf at hk
        rw [hsc] at hk
        obtain ⟨k', e, r⟩ := lookup_relS hk
        have : k' = .cell ∨ k' = .free := by
          rcases r with rfl | ⟨rfl, _⟩
          · exact hk'
          · exact .inr rfl
        rcases this with rfl | rfl
        · obtain ⟨c, hm⟩ := cells_has (n := (s.heap.push { cls := .type "dict", data := .dict #[] }).objs.size) (acc := cloFrom X.env.cells scope.names []) (PySem.mem_of_lookup e)
          obtain ⟨c', e'⟩ := mem_lookup hm
          exact ⟨c', by rw [hcl]; exact e'⟩
        · obtain ⟨c, h1, _⟩ := look e
          exact ⟨c, h1⟩
      rcases hy with hy | hy
      · exact key _ hy (.inl rfl)
      · exact key _ hy (.inr rfl)
    · have z : (scope.names.lookup y == some NameKind.cell) = true := z
      have z : scope.names.lookup y = some .cell := by simpa using z
      have e : cenv.cells.lookup y = some c := e
      rw [hcl] at e
      rcases cells_mem (PySem.mem_of_lookup e) with hm | ⟨_, h2, _⟩
      · rcases cloFrom_mem hm with hm | ⟨h1, _⟩
        · cases hm
        · have q := ok.uniq _ h1
          rw [z] at q; cases q
      · rw [Heap.size_push] at h2
        exact Nat.le_of_succ_le h2
    · show b ≠ cenv.locals
      rw [hL]; exact Nat.ne_of_lt (hfp b hb).2
    · have e : cenv.cells.lookup y = some c := e
      rcases mem e with ⟨h1, _⟩ | ⟨h1, _⟩
      · exact (hfp b hb).1.2.2.2.2.1 y c h1 z
      · have h2 : s.heap.objs.size + 1 ≤ b := by rw [← z]; exact h1
        exact absurd (Nat.lt_of_lt_of_le (hfp b hb).2 (Nat.le_of_succ_le h2)) (Nat.lt_irrefl _)
    · rcases (hfp b hb).1.2.2.2.1 with z | z
      · exact I.ok.noex b o e z
      · exact absurd (Nat.lt_of_lt_of_le (Heap.lt_size e) (Nat.le_trans I.ok.bsz z)) (Nat.lt_irrefl _)
    · rcases List.mem_cons.mp (I.stkSub b z) with z | z
      · exact (hfp b hb).1.2.1 z
      · exact (hfp b hb).1.2.2.1 z
  refine ⟨okB, rfl, I.bare, Un.kept kp, ⟨fun _ => none, ?_, fun i y av e1 e2 e3 => ?_⟩, fun y c e => ?_, ?_, fun y c e => ?_, fun p hp => ?_, I.hok.kept kp, by rw [wipe_length]; exact I.len⟩
  · show Heap.Ns _ cenv.locals _
    rw [hL]
    exact Heap.Ns.keeps (Heap.Ns.new ..) fun b o e => pushCells_keeps _ _ _ _ e
  · obtain ⟨e2, hne⟩ := wipe_some e2
    have hfr : scope.names.lookup y = some .free ∧ (cenv.kindOf y = some .cell ∨ cenv.kindOf y = some .free) := by
      have key : ∀ k, cenv.scope.names.lookup y = some k → k = .local ∨ k = .cell ∨ k = .free → scope.names.lookup y = some .free ∧ (cenv.kindOf y = some .cell ∨ cenv.kindOf y = some .free) := fun k hk hk' => by
        have hk0 := hk
        rw [hsc] at hk
        obtain ⟨k', e, r⟩ := lookup_relS hk
        have no : ¬ (k' = .local ∨ k' = .cell) := fun hh => by
          rcases ok.own _ (PySem.mem_of_lookup e) hh with e' | e'
          · obtain ⟨p, hp, hpy⟩ := List.mem_map.mp e'
            have e3 := ok.ix p hp
            have : p.1 = y := hpy
            rw [this] at e3
            exact hne (List.mem_map.mpr ⟨p, hp, nodup_ix hN e3 e1⟩)
          · exact e' (List.mem_of_getElem? e1)
        rcases r with rfl | ⟨rfl, rfl⟩
        · rcases hk' with rfl | rfl | rfl
          · exact absurd (.inl rfl) no
          · exact absurd (.inr rfl) no
          · exact ⟨e, .inr hk0⟩
        · exact ⟨e, .inl hk0⟩
      have e3 : Vis cenv.scope y := e3
      rcases e3 with e3 | e3 | e3
      · exact key _ e3 (.inl rfl)
      · exact key _ e3 (.inr (.inl rfl))
      · exact key _ e3 (.inr (.inr rfl))
    obtain ⟨m, hn, hl⟩ := I.loc
    have hvis : Vis X.env.scope y := (ok.free _ (PySem.mem_of_lookup hfr.1) rfl).elim (fun k => .inr (.inl k)) (fun k => .inr (.inr k))
    obtain ⟨w, r, q⟩ := hl i y av e1 e2 hvis
    refine ⟨w, r, .inr ⟨hfr.2, ?_⟩⟩
    obtain ⟨c, h1, h2⟩ := look hfr.1
    rcases q with ⟨k, _⟩ | ⟨_, c', e', z⟩
    · have k : X.env.scope.names.lookup y = some .local := k
      rcases ok.free _ (PySem.mem_of_lookup hfr.1) rfl with k' | k' <;> rw [show X.env.scope.names.lookup y = _ from k'] at k <;> cases k
    · rw [h2] at e'; cases e'
      exact ⟨c, h1, z.keeps kp⟩
  · have e : cenv.cells.lookup y = some c := e
    rcases mem e with ⟨h1, _⟩ | ⟨_, z⟩
    · obtain ⟨w, z⟩ := I.cell y c h1
      exact ⟨w, z.keeps kp⟩
    · exact ⟨_, z⟩
  · show H cenv.locals = none
    rw [hL]; exact I.hok.fresh (Nat.le_refl _)
  · have e : cenv.cells.lookup y = some c := e
    rcases mem e with ⟨h1, _⟩ | ⟨h1, _⟩
    · exact I.freeC y c h1
    · exact I.hok.fresh (Nat.le_of_succ_le h1)
  · exact absurd (show p ∈ ([] : List (Addr × Obj)) ++ [] from hp) (by simp)
theorem app_ok {E : Value → Shared → Prop} {D : Addr} {xs : List V} {y : V} {v : Value} {Q : Value → Shared → Prop} (I : Inv X pins σ H s) (hD : H D = some (.lst xs)) (hz : xs.length < sizeLine) (r : RelV y v)
    (h : ∀ s', Inv X pins σ (upd H D (.lst (xs ++ [y]))) s' → Q .none s') : wpAny (model X.prog X.w) X.A (call (.builtin "list.append") [.ref D, v]) Q E s := by
  obtain ⟨hz', its, n, ri, e⟩ := I.hok D _ hD
  have hl := ri.length
  refine append_at (hsz := by rw [List.size_toArray]; omega) e fun h' sb ho' => ?_
  refine h { s with heap := h' } (I.write (t' := s.toks) (by rw [hD]; trivial) (.inl rfl) (fun b u hb q => (sb.2 b hb).trans q) ⟨_, ho'⟩ ⟨by rw [List.length_append]; exact hz, its ++ [v], n + 1, ri.append (.cons r .nil), ?_⟩)
  rw [ho']
  simp
def PTs (X : Cx) (ifs : List Expr) (t : TT) : Prop :=
  ∀ (pins : List (Addr × Obj)) (s : Shared) (σ : St) (H : Hp) (Q : Bool → Hp → Prop), Inv X pins σ H s → t σ H Q →
    wpAny (model X.prog X.w) X.A (forIn ifs true fun c r => if r = true then do let ok ← isTrue c X.env (eval c X.env); pure (ForInStep.yield ok) else pure (ForInStep.yield r)) (TP X pins σ Q) X.xe s
def tYes : TT := fun _ H Q => Q true H
theorem pts_nil : PTs X [] tYes := fun _ _ _ H _ I h => wpAny_tests_nil ⟨H, I, h⟩
theorem pts_one {c : Expr} {t : TT} (h : PT X c t) : PTs X [c] t := fun pins s σ H Q I hw => wpAny_tests_one (h pins s σ H Q I hw)
end
theorem thnF {α : Type} {t : Sem α} {Q Q' : α → Shared → Prop} {M : Model} {A : Around} {E : Value → Shared → Prop} {s : Shared} (h : wpAny M A t Q (fun _ _ => False) s) (hQ : ∀ a s, Q a s → Q' a s) : wpAny M A t Q' E s := wpAny_mono h hQ fun _ _ z => False.elim z
theorem compLoop_any {prog : Program} {w : World} {A : Around} {R : Result → Shared → Prop} {s : Shared} {elt target iter : Expr} {ifs : List Expr} {scope : Scope} {pos : Pos} {it acc : Value} {env : Env} (I : Nat → Shared → Prop)
    (turn : ∀ n s, I n s → wpAny (model prog w) A (pyNext it) (fun r s₁ => match r with
      | none => R (.ok .next) s₁
      | some v => wpAny (model prog w) A (letOwnedTupleGo target it v) (fun _ s₁' => wpAny (model prog w) A (assign target env v) (fun _ s₂ =>
          wpAny (model prog w) A (forIn ifs true fun c r => if r = true then do let ok ← isTrue c env (eval c env); pure (ForInStep.yield ok) else pure (ForInStep.yield r)) (fun ok s₃ =>
            if ok = true then wpAny (model prog w) A (eval elt env) (fun x s₄ =>
              wpAny (model prog w) A (call (.builtin "list.append") [acc, x]) (fun _ s₅ => ∃ m, m < n ∧ I m s₅) (notedBy (model prog w) A env fun e s' => R (.error e) s') s₄) (notedBy (model prog w) A env fun e s' => R (.error e) s') s₃
            else ∃ m, m < n ∧ I m s₃) (notedBy (model prog w) A env fun e s' => R (.error e) s') s₂) (notedBy (model prog w) A env fun e s' => R (.error e) s') s₁') (notedBy (model prog w) A env fun e s' => R (.error e) s') s₁) (notedBy (model prog w) A env fun e s' => R (.error e) s') s)
    (n : Nat) (h : I n s) :
    codeAny (model prog w) A (.compLoop (.ListComp elt [⟨target, iter, ifs, 0⟩] scope pos) 0 it acc env) R s := by
  refine codeAny_loop rfl I (fun n s hI => ?_) n h
  show wpAny _ A ((compTurn (.ListComp elt [⟨target, iter, ifs, 0⟩] scope pos) 0 it acc env).onRaise (fun x => do noteFrame x env; theTreesLotGoes x)) _ _ s
  refine wpAny_noted ?_
  rw [compTurn_list]
  refine wpAny_bind (wpAny_standAt (wpAny_bind (wpAny_mono (turn n s hI) (fun r s₁ h₁ => ?_) fun _ _ h' => h')))
  cases r with
  | none => exact wpAny_pure h₁
  | some v =>
    refine wpAny_bind (wpAny_mono h₁ (fun _ s₁' h₁' => ?_) fun _ _ h' => h')
    refine wpAny_bind (wpAny_mono h₁' (fun _ s₂ h₂ => wpAny_bind (wpAny_mono h₂ (fun ok s₃ h₃ => ?_) fun _ _ h' => h')) fun _ _ h' => h')
    cases ok with
    | false => exact wpAny_pure ⟨rfl, h₃⟩
    | true =>
      exact wpAny_bind (wpAny_bind (wpAny_mono h₃ (fun x s₄ h₄ => wpAny_bind (wpAny_mono h₄ (fun _ s₅ h₅ => wpAny_pure (wpAny_pure ⟨rfl, h₅⟩)) fun _ _ h' => h')) fun _ _ h' => h'))
section
variable {X : Cx}
def tLc (wi : TI) (g : TG) (tt : TT) (te : TE) (vs : List Nat) : TE := fun σ H Q => wi σ H fun J H1 => ∀ D, H1 D = none → ∃ W : Nat → Nat → Hp → Prop, (∃ m, W 0 m (upd H1 D (.lst []))) ∧ ∀ i m H, W i m H →
  (J.stop i H ∧ Q (.ref D) H) ∨ (J.go i H ∧ ∃ Nx : Hp → Prop, (∀ H', Nx H' → ∃ m', m' < m ∧ W (i + 1) m' H') ∧ ∀ x H', J.yld i H x H' → g x (wipe σ vs) H' fun σ2 H2 => wipe σ2 vs = wipe σ vs ∧ tt σ2 H2 fun b H3 =>
    if b = true then te σ2 H3 fun y H4 => ∃ acc, H4 D = some (.lst acc) ∧ acc.length < sizeLine ∧ Nx (upd H4 D (.lst (acc ++ [y]))) else Nx H3)
theorem lc_core {pins : List (Addr × Obj)} {s : Shared} {σ : St} {H : Hp} {Q : VK} {elt tg iter : Expr} {ifs : List Expr} {scope : Scope} {own : List (Str × Nat)} {pos pos' : Pos} {wi : TI} {g : TG} {tt : TT} {te : TE} {use : Option (Value → Sem Unit)} {Qf : Value → Shared → Prop}
    (hc : X.calm = true) (hN : X.N.Nodup) (I : Inv X pins σ H s) (hi : PI X tg iter wi) (ok : BlkOk X.N X.env.scope scope own)
    (hg : ∀ (s : Shared) (H : Hp) (C : Addr) (cl : List (Str × Addr)) (fp : List Addr), PG (X.blk s H scope (compEnvC scope cl C X.env) fp) tg g) (ht : ∀ (s : Shared) (H : Hp) (C : Addr) (cl : List (Str × Addr)) (fp : List Addr), PTs (X.blk s H scope (compEnvC scope cl C X.env) fp) ifs tt)
    (he : ∀ (s : Shared) (H : Hp) (C : Addr) (cl : List (Str × Addr)) (fp : List Addr), PE (X.blk s H scope (compEnvC scope cl C X.env) fp) elt te) (hs : ∀ x, foldedSetIterable iter X.env x = pure x)
    (h : tLc wi g tt te (own.map (·.2)) σ H Q)
    (hRR : ∀ D C s' m H', Inv X pins σ H' s' → Q (.ref D) H' → s'.heap.Ns C m → FpOk X pins H' C → compPost (model X.prog X.w) X.A X.xe use Qf (.ref D) C (.ok .next) s') :
    wpAny (model X.prog X.w) X.A (comprehension (.ListComp elt [⟨tg, iter, ifs, 0⟩] scope pos) scope X.env pos' (newList []) false (eval iter X.env) use) Qf X.xe s := by
  have hfree : ∀ y ∈ scope.names, y.2 = .free → ∃ c, X.env.cells.lookup y.1 = some c := fun y hy e => by
    rcases ok.free y hy e with k | k
    · exact I.ok.has _ (.inl k)
    · exact I.ok.has _ (.inr k)
  refine wpAny_comprehension_free (use := use) rfl hs (closure_ok hfree) ok.kind (fun y hy e => by rw [ok.uniq y hy, e])
    (thn (hi pins s σ H _ I h) fun xv s1 hx => thn hx fun itv s2 h2 => ?_)
  obtain ⟨it, fp, tn, J, H2, e, I2, T, st2, f2, q⟩ := h2
  subst e
  refine wpAny_newObj_type (newEnv_comp ?_) (by show 0 ≤ sizeLine; decide)
  generalize hD : s2.heap.objs.size = D
  have hDn : H2 D = none := I2.hok.fresh (Nat.le_of_eq hD)
  obtain ⟨W, ⟨m0, w0⟩, turn⟩ := q D hDn
  -- the new list
  generalize hs3 : ({ s2 with heap := s2.heap.push { cls := .type "list", data := .seq ([] : List Value).toArray } } : Shared) = s3
  have I3 : Inv X pins σ (upd H2 D (.lst [])) s3 := by
    rw [← hs3]
    refine I2.laid (t' := s2.toks) (fun b o e => Heap.get?_push_of_some _ e) (Nat.le_of_eq hD) ⟨Nat.zero_le _, [], 0, .nil, ?_⟩
    rw [← hD]
    exact Heap.get?_push_size _ rfl
  have h3 : s3.heap = s2.heap.push { cls := .type "list", data := .seq ([] : List Value).toArray } := by rw [← hs3]
  have sz : ∀ b ∈ fp, b < s2.heap.objs.size := fun b hb => by
    obtain ⟨o, e, _⟩ := T.obj _ _ st2 b hb
    exact Heap.lt_size e
  have f3 : ∀ b ∈ fp, FpOk X pins (upd H2 D (.lst [])) b ∧ b < s3.heap.objs.size := fun b hb => by
    have hlt := sz b hb
    refine ⟨⟨?_, (f2 b hb).2⟩, by rw [h3, Heap.size_push]; exact Nat.lt_succ_of_lt hlt⟩
    rw [upd_ne (by rw [← hD]; exact Nat.ne_of_lt hlt)]
    exact (f2 b hb).1
  have st3 : tn 0 s3.heap := T.keep _ _ _ st2 fun b _ o e => by rw [h3]; exact Heap.get?_push_of_some _ e
  have I4 := block_start I3 ok hN f3
  have pg := hg s3 (upd H2 D (.lst [])) s3.heap.objs.size (cellsFrom (s3.heap.objs.size + 1) scope.names (cloFrom X.env.cells scope.names [])) fp
  have pt := ht s3 (upd H2 D (.lst [])) s3.heap.objs.size (cellsFrom (s3.heap.objs.size + 1) scope.names (cloFrom X.env.cells scope.names [])) fp
  have pe := he s3 (upd H2 D (.lst [])) s3.heap.objs.size (cellsFrom (s3.heap.objs.size + 1) scope.names (cloFrom X.env.cells scope.names [])) fp
  show codeAny _ _ (.compStart (.ListComp elt [⟨tg, iter, ifs, 0⟩] scope pos) 0 (.ref it) (.ref D) (compEnvC scope (cellsFrom (s3.heap.objs.size + 1) scope.names (cloFrom X.env.cells scope.names [])) s3.heap.objs.size X.env)) (compPost (model X.prog X.w) X.A X.xe use Qf (.ref D) s3.heap.objs.size) { s3 with heap := pushCells (s3.heap.push { cls := .type "dict", data := .dict #[] }) scope.names }
  have nfp : ∀ b ∈ fp, (upd H2 D (.lst [])) b = none := fun b hb => (f3 b hb).1.1
  generalize hce : compEnvC scope (cellsFrom (s3.heap.objs.size + 1) scope.names (cloFrom X.env.cells scope.names [])) s3.heap.objs.size X.env = ce at I4 pg pt pe ⊢
  have cL : ce.locals = s3.heap.objs.size := by subst hce; rfl
  generalize hH3 : upd H2 D (.lst []) = H3 at I3 I4 pg pt pe w0 nfp f3
  generalize hs4 : ({ s3 with heap := pushCells (s3.heap.push { cls := .type "dict", data := .dict #[] }) scope.names } : Shared) = s4 at I4 ⊢
  have st4 : tn 0 s4.heap := T.keep _ _ _ st3 fun b _ o e => by rw [← hs4]; exact pushCells_keeps _ _ _ _ (Heap.get?_push_of_some _ e)
  have stat : ∀ {σ' : St} {H' : Hp} {s' : Shared}, Inv (X.blk s3 H3 scope ce fp) [] σ' H' s' → (∀ b ∈ fp, H' b = none) → ∀ b ∈ fp, FpOk (X.blk s3 H3 scope ce fp) [] H' b := fun {σ' H' s'} I' hn b hb =>
    ⟨hn b hb, (I'.ok.exf b hb).1, I'.ok.exfs b hb, .inl hb, fun x c e => (I'.ok.exf b hb).2 x c e, fun p hp => absurd (show p ∈ ([] : List (Addr × Obj)) ++ [] from hp) (by simp)⟩
  have loop : codeAny (model X.prog X.w) X.A (.compLoop (.ListComp elt [⟨tg, iter, ifs, 0⟩] scope pos) 0 (.ref it) (.ref D) ce) (compPost (model X.prog X.w) X.A X.xe use Qf (.ref D) s3.heap.objs.size) s4 := by
    refine compLoop_any (fun n s' => ∃ i H', Inv (X.blk s3 H3 scope ce fp) [] (wipe σ (own.map (·.2))) H' s' ∧ tn i s'.heap ∧ (∀ b ∈ fp, H' b = none) ∧ W i n H') ?_ m0 ⟨0, H3, I4, st4, nfp, w0⟩
    rintro n s5 ⟨i, H5, I5, st5, n5, w5⟩
    rcases turn i n H5 w5 with ⟨stop, qq⟩ | ⟨go, Nx, hNx, step⟩
    · have td := T.done (X.blk s3 H3 scope ce fp) rfl rfl rfl hc i [] s5 _ H5 (fun _ _ => False) I5 (stat I5 n5) st5 stop
      refine thnF td fun r s6 ⟨hr, I6⟩ => ?_
      subst hr
      -- back in the def's context
      have I7 : Inv X pins σ H5 s6 := I3.call' (ch := fp) I6.os I6.base I6.hok I6.bare fun b hb => ⟨(f3 b hb).1.2.2.2.1, (f3 b hb).1.2.1, (f3 b hb).1.2.2.2.2.1, (f3 b hb).1.2.2.2.2.2⟩
      have nC : H5 s3.heap.objs.size = none := by
        have z : H5 ce.locals = none := I6.free
        rw [cL] at z
        exact z
      obtain ⟨m, hn, _⟩ := I6.loc
      have hn : s6.heap.Ns ce.locals m := hn
      rw [cL] at hn
      exact hRR D s3.heap.objs.size s6 m H5 I7 qq hn (I3.fpOk (Nat.le_refl _) nC)
    · have ti := T.item (X.blk s3 H3 scope ce fp) rfl rfl rfl hc i [] s5 _ H5 (fun _ _ => False) I5 (stat I5 n5) st5 go
      refine thnF ti fun r s6 ⟨u, hr, h6⟩ => ?_
      subst hr
      refine thnF h6 fun _ s7 ⟨x, H7, I7, r7, y7, st7, n7⟩ => ?_
      have I7' := I7.pinned (stat I7 n7) (T.obj _ _ st7)
      refine thnF (pg _ s7 _ H7 x u _ I7' r7 (step x H7 y7)) fun _ s8 ⟨σ8, H8, I8, hw8, q8⟩ => ?_
      refine thnF (pt _ s8 σ8 H8 _ I8 q8) fun b s9 ⟨H9, I9, q9⟩ => ?_
      -- the turn's end
      have fin : ∀ {s' : Shared} {H' : Hp}, Inv (X.blk s3 H3 scope ce fp) ([] ++ pinsAt fp s7.heap) σ8 H' s' → Nx H' → ∃ m, m < n ∧ ∃ i H', Inv (X.blk s3 H3 scope ce fp) [] (wipe σ (own.map (·.2))) H' s' ∧ tn i s'.heap ∧ (∀ b ∈ fp, H' b = none) ∧ W i m H' := fun {s' H'} I' nx => by
        obtain ⟨m', hm, w'⟩ := hNx H' nx
        have pin' : ∀ b ∈ fp, ∀ o, s7.heap.get? b = some o → s'.heap.get? b = some o ∧ H' b = none := fun b hb o e =>
          let z := I'.pin (b, o) (List.mem_append_right _ (List.mem_append_right _ (mem_pinsAt hb e)))
          ⟨z.1, z.2.1⟩
        have hl : (wipe σ (own.map (·.2))).length = σ8.length := by rw [← hw8, wipe_length]
        refine ⟨m', hm, i + 1, H', (I'.unpinned (pins := [])).weak hl (fun j v e => ?_), T.keep _ _ _ st7 fun b hb o e => (pin' b hb o e).1, fun b hb => ?_, w'⟩
        · rw [← hw8] at e
          exact (wipe_some e).1
        · obtain ⟨o, e, _⟩ := T.obj _ _ st7 b hb
          exact (pin' b hb o e).2
      cases b with
      | false =>
        simp only [Bool.false_eq_true, if_false] at q9 ⊢
        exact fin I9 q9
      | true =>
        simp only [if_true] at q9 ⊢
        refine thnF (pe _ s9 σ8 H9 _ I9 q9) fun z s10 ⟨yv, H10, I10, r10, acc, hD10, hz10, nx⟩ => ?_
        exact app_ok (X := X.blk s3 H3 scope ce fp) I10 hD10 hz10 r10 fun s11 I11 => fin I11 nx
  exact codeAny_compStart_list loop (T.self X.A 0 _ _ _ st4 loop)
theorem pe_lc {elt tg iter : Expr} {ifs : List Expr} {scope : Scope} {own : List (Str × Nat)} {pos : Pos} {wi : TI} {g : TG} {tt : TT} {te : TE} (hc : X.calm = true) (hN : X.N.Nodup) (hi : PI X tg iter wi) (ok : BlkOk X.N X.env.scope scope own)
    (hg : ∀ (s : Shared) (H : Hp) (C : Addr) (cl : List (Str × Addr)) (fp : List Addr), PG (X.blk s H scope (compEnvC scope cl C X.env) fp) tg g) (ht : ∀ (s : Shared) (H : Hp) (C : Addr) (cl : List (Str × Addr)) (fp : List Addr), PTs (X.blk s H scope (compEnvC scope cl C X.env) fp) ifs tt)
    (he : ∀ (s : Shared) (H : Hp) (C : Addr) (cl : List (Str × Addr)) (fp : List Addr), PE (X.blk s H scope (compEnvC scope cl C X.env) fp) elt te) (hs : ∀ x, foldedSetIterable iter X.env x = pure x := by intro _; rfl) :
    PE X (.ListComp elt [⟨tg, iter, ifs, 0⟩] scope pos) (tLc wi g tt te (own.map (·.2))) := by
  intro pins s σ H Q I h
  rw [eval_ListComp]
  refine lc_core hc hN I hi ok hg ht he hs h fun D C s' m H' I' q hn f => ⟨m, hn, fun h'' sb => ?_⟩
  obtain ⟨f0, f1, f2, f3, f4, f5⟩ := f
  exact ⟨.ref D, H', I'.turned (t' := s'.toks) (fun b o hb e => (sb.2 b hb).trans e) f0 f1 f3 f4 f5, rfl, q⟩
theorem ps_setLc {i : Nat} {y : Str} {py : Pos} {elt tg iter : Expr} {ifs : List Expr} {scope : Scope} {own : List (Str × Nat)} {pos spos : Pos} {wi : TI} {g : TG} {tt : TT} {te : TE} (hc : X.calm = true) (hN : X.N.Nodup) (hy : X.N[i]? = some y) (hyl : X.env.scope.names.lookup y = some .local)
    (hsw : swapsWith (.ListComp elt [⟨tg, iter, ifs, 0⟩] scope pos) (some (.Name y py)) spos.line X.env = pure true) (hi : PI X tg iter wi) (ok : BlkOk X.N X.env.scope scope own)
    (hg : ∀ (s : Shared) (H : Hp) (C : Addr) (cl : List (Str × Addr)) (fp : List Addr), PG (X.blk s H scope (compEnvC scope cl C X.env) fp) tg g) (ht : ∀ (s : Shared) (H : Hp) (C : Addr) (cl : List (Str × Addr)) (fp : List Addr), PTs (X.blk s H scope (compEnvC scope cl C X.env) fp) ifs tt)
    (he : ∀ (s : Shared) (H : Hp) (C : Addr) (cl : List (Str × Addr)) (fp : List Addr), PE (X.blk s H scope (compEnvC scope cl C X.env) fp) elt te) (hs : ∀ x, foldedSetIterable iter X.env x = pure x := by intro _; rfl) :
    PS X (.Assign [.Name y py] (.ListComp elt [⟨tg, iter, ifs, 0⟩] scope pos) spos) (tAsg (tLc wi g tt te (own.map (·.2))) (gName i)) := by
  intro pins s σ H D I h
  rw [exec_Assign_Name_used _ _ _ _ hsw]
  refine wpAny_bind (wpAny_standAt (wpAny_bind ?_))
  show wpAny _ X.A (do let _ ← comprehension (.ListComp elt [⟨tg, iter, ifs, 0⟩] scope pos) scope X.env (firstIterPos [⟨tg, iter, ifs, 0⟩] pos) (newList []) false (eval iter X.env) (some (assign (.Name y py) X.env))) _ _ s
  have h : tLc wi g tt te (own.map (·.2)) σ H (fun x H1 => gName i x σ H1 D.nx) := h
  refine wpAny_bind (thn (lc_core (Qf := fun _ s' => SP X pins D .next s') hc hN I hi ok hg ht he hs h fun L C s' m H' I' q hn f => ?_) fun _ s' hq => wpAny_pure (wpAny_pure hq))
  show wpAny _ _ (assign (.Name y py) X.env (.ref L)) _ _ _
  refine wpAny_assign_Name (store_ok2 (v := V.ref L) I' hN hy (.inl hyl) rfl (fun s2 I2 ⟨a, sb, ha⟩ => ?_) (.inr hyl))
  obtain ⟨f0, f1, f2, f3, f4, f5⟩ := f
  have haC : C ≠ a := by
    rcases ha with z | z
    · rw [z]; exact f1
    · exact fun e => f4 y a z e.symm
  refine ⟨m, hn.sameBut sb haC, fun h3 sb3 => ?_⟩
  exact ⟨_, H', I2.turned (t' := s2.toks) (fun b o hb e => (sb3.2 b hb).trans e) f0 f1 f3 f4 f5, q⟩
theorem sw_true {elt : Expr} {gs : List Comprehension} {scope : Scope} {pos py : Pos} {y : Str} {l : Nat} {env : Env} (hk : env.scope.kind = .function) (hy : env.scope.names.lookup y = some .local) (hl : (py.line == pos.line) = true)
    (ha : (scope.names.any fun (n, k) => n == y && (k == .local || k == .cell)) = false) : swapsWith (.ListComp elt gs scope pos) (some (.Name y py)) l env = pure true := by
  have ky : env.kindOf y = some .local := hy
  have hb : env.blockKind = .function := by unfold Env.blockKind; rw [hk]; rfl
  unfold swapsWith
  simp only [hb, ky, ha, Expr.pos, hl]
  rfl
end
theorem lc_list {K : PySem.W.Frag} {a : Addr} {xs : List V} {g : TG} {tt : TT} {te : TE} {vs : List Nat} {σ : St} {H1 : Hp} {D : Addr} {Qd : Hp → Prop} (Pv : Nat → Hp → Prop) (h0 : Pv 0 (upd H1 D (.lst []))) (hl : ∀ i H, i ≤ xs.length → Pv i H → SqL K H a xs)
    (hs : ∀ i x H, xs[i]? = some x → Pv i H → g x (wipe σ vs) H fun σ2 H2 => wipe σ2 vs = wipe σ vs ∧ tt σ2 H2 fun b H3 =>
      if b = true then te σ2 H3 fun y H4 => ∃ acc, H4 D = some (.lst acc) ∧ acc.length < sizeLine ∧ Pv (i + 1) (upd H4 D (.lst (acc ++ [y]))) else Pv (i + 1) H3) (hd : ∀ H, Pv xs.length H → Qd H) :
    ∃ W : Nat → Nat → Hp → Prop, (∃ m, W 0 m (upd H1 D (.lst []))) ∧ ∀ i m H, W i m H →
      ((Itl K a).stop i H ∧ Qd H) ∨ ((Itl K a).go i H ∧ ∃ Nx : Hp → Prop, (∀ H', Nx H' → ∃ m', m' < m ∧ W (i + 1) m' H') ∧ ∀ x H', (Itl K a).yld i H x H' → g x (wipe σ vs) H' fun σ2 H2 => wipe σ2 vs = wipe σ vs ∧ tt σ2 H2 fun b H3 =>
        if b = true then te σ2 H3 fun y H4 => ∃ acc, H4 D = some (.lst acc) ∧ acc.length < sizeLine ∧ Nx (upd H4 D (.lst (acc ++ [y]))) else Nx H3) := by
  refine ⟨fun i m H => m = xs.length - i ∧ i ≤ xs.length ∧ Pv i H, ⟨xs.length, by simp, Nat.zero_le _, h0⟩, ?_⟩
  rintro i m H ⟨rfl, hi, p⟩
  have q := hl i H hi p
  by_cases hlt : i < xs.length
  · refine .inr ⟨⟨xs, xs[i], q, by simp [hlt]⟩, Pv (i + 1), fun H' p' => ⟨xs.length - (i + 1), by omega, rfl, hlt, p'⟩, fun x H' y => ?_⟩
    obtain ⟨e, y⟩ := y
    subst e
    exact hs i x _ (y xs q) p
  · have e : i = xs.length := by omega
    subst e
    exact .inl ⟨⟨xs, q, Nat.le_refl _⟩, hd H p⟩
def blkC (N : List Str) (sc scope : Scope) (own : List (Str × Nat)) : Bool :=
  (match scope.kind with | .function => true | _ => false) && (scope.names.all fun y => decide (scope.names.lookup y.1 = some y.2)) && (own.all fun p => decide (N[p.2]? = some p.1)) &&
    (scope.names.all fun y => match y.2 with
      | .free => (match sc.names.lookup y.1 with | some .cell => true | some .free => true | _ => false)
      | .local => decide (y.1 ∈ own.map (·.1)) || decide (y.1 ∉ N)
      | .cell => decide (y.1 ∈ own.map (·.1)) || decide (y.1 ∉ N)
      | _ => true)
theorem blkOk_by {N : List Str} {sc scope : Scope} {own : List (Str × Nat)} (h : blkC N sc scope own = true) : BlkOk N sc scope own := by
  unfold blkC at h
  simp only [Bool.and_eq_true, List.all_eq_true, decide_eq_true_eq] at h
  obtain ⟨⟨⟨h1, h2⟩, h3⟩, h4⟩ := h
  refine ⟨?_, h2, h3, fun y hy e => ?_, fun y hy e => ?_⟩
  · split at h1
    · assumption
    · cases h1
  · have q := h4 y hy
    simp only [e] at q
    split at q <;> first | exact .inl (by assumption) | exact .inr (by assumption) | cases q
  · have q := h4 y hy
    rcases e with e | e <;> (simp only [e, Bool.or_eq_true, decide_eq_true_eq] at q; exact q)
end L2
namespace L2
open PySem PySem.Spec PyProof.Rows
section
variable {prog : Program} {w : World} {A : Around} {R : Result → Shared → Prop} {s : Shared} {elt t0 i0 t1 i1 : Expr} {ifs0 ifs1 : List Expr} {scope : Scope} {pos : Pos} {it acc : Value} {env : Env}
end
section
variable {X : Cx}
end
end L2
namespace L2
open PySem PySem.Spec PyProof.Rows
section
variable {κ : Type} [DecidableEq κ]
end
theorem kV_is {P : Program} {w : World} {k : Key} {u : Value} (r : RelV (kV k) u) : (mixKind P w).is k u = true := by
  cases k with
  | inl i => obtain ⟨t, e⟩ := (show ∃ t, u = Value.int i t from r); subst e; exact mixKind_int P w i t
  | inr x => obtain ⟨t, e⟩ := (show ∃ t, u = Value.str x t from r); subst e; exact mixKind_str P w x t
section
variable {P : Program} {w : World} {H : Hp} {h : Heap} {a : Addr}
end
section
variable {X : Cx} {pins : List (Addr × Obj)} {σ : St} {H : Hp} {s : Shared} {a : Addr} {y v : V} {u r : Value} {o : Option V} {A : Around} {E : Value → Shared → Prop}
end
section
variable {X : Cx} {pins : List (Addr × Obj)} {σ : St} {H : Hp} {s : Shared} {a : Addr} {kvs : List (Key × V)} {k : Key} {u : Value} {A : Around} {E : Value → Shared → Prop}
end
def NoSl (i : Expr) : Prop := ∀ ov iv, subscripted i false ov iv = operate [ov, iv] (getItem ov iv)
theorem subD_of {prog : Program} {w : World} {A : Around} {E : Value → Shared → Prop} {s : Shared} {env : Env} {value slice : Expr} {pos : Pos} {T id : String} {Q : Value → Shared → Prop}
    (hl : typeLookup (.type T) "__getitem__" = pure (some (.builtin id))) (hs : NoSl slice)
    (h : wpAny (model prog w) A (eval value env) (fun o s₁ => wpAny (model prog w) A (eval slice env) (fun i s₂ => s₂.TypeIs o T ∧ wpAny (model prog w) A (getItem o i) Q E s₂) E s₁) E s) :
    wpAny (model prog w) A (eval (.Subscript value slice pos) env) Q E s := by
  refine Subscript_ (wpAny_mono h (fun o s₁ h₁ => wpAny_mono h₁ (fun i s₂ h₂ => ?_) fun _ _ x => x) fun _ _ x => x)
  obtain ⟨hT, h₂⟩ := h₂
  unfold subscriptTail
  refine wpAny_bind ?_
  rw [getitemInPython_of_ne hT.not_modules]
  refine wpAny_bind (wpAny_specialOf hT hl ?_)
  have fin : wpAny (model prog w) A (subscripted slice false o i) (fun r s₃ => wpAny (model prog w) A (letTemporaryGo value o r >>= fun _ => pure r) Q E s₃) E s₂ := by
    rw [hs o i]
    exact wpAny_operating (wpAny_mono h₂ (fun r s₃ h₃ => wpAny_bind (wpAny_letTemporaryGo (wpAny_pure h₃))) fun _ _ x => x)
  first
    | exact wpAny_pure (wpAny_bind fin)
    | exact wpAny_bind (wpAny_pure (wpAny_bind fin))
    | exact wpAny_bind fin
section
variable {X : Cx} {o i e value : Expr} {pos pos' tpos : Pos} {td ty tv : TE}
end
section
variable {X : Cx} {pos : Pos}
end
section
variable {X : Cx} {pins : List (Addr × Obj)} {σ : St} {H : Hp} {s : Shared} {a : Addr} {y d : V} {u r : Value} {o : Option V} {A : Around} {E : Value → Shared → Prop}
end
section
variable {X : Cx} {o e f : Expr} {apos cpos : Pos} {td ty tx : TE}
end
section
variable {X : Cx} {pins : List (Addr × Obj)} {σ : St} {H : Hp} {s : Shared} {a : Addr} {kvs : List (Key × V)} {A : Around} {E : Value → Shared → Prop}
end
section
variable {X : Cx} {pins : List (Addr × Obj)} {σ : St} {H : Hp} {s : Shared} {a : Addr} {y : V} {u : Value} {A : Around} {E : Value → Shared → Prop}
end
end L2
namespace L2
open PySem PySem.Spec PyProof.Rows
section
variable {prog : Program} {w : World} {A : Around} {E : Value → Shared → Prop}
end
section
variable {X : Cx}
end
end L2
namespace L2
open PySem PySem.Spec PyProof.Rows
section
variable {X : Cx} {pins : List (Addr × Obj)} {σ : St} {H : Hp} {s : Shared} {h' : Heap}
theorem Inv.turnedL {t' : Nat} {ch : List Addr} (I : Inv X pins σ H s) (k : ∀ b o, b ∉ ch → s.heap.get? b = some o → h'.get? b = some o) (hf : ∀ b ∈ ch, FpOk X pins H b) : Inv X pins σ H { s with heap := h', toks := t' } := by
  have nit : ∀ b u, H b = some u → b ∉ ch := fun b u e z => by
    have q := (hf b z).1
    rw [q] at e; cases e
  refine I.step (g' := s.gens) (d' := s.drawn) (ch := ch) (fun b hb => ⟨(hf b hb).2.2.2.1, (hf b hb).2.1, (hf b hb).2.2.2.2.1, (hf b hb).2.2.2.2.2⟩) (fun b o _ _ hc e _ => k b o hc e) (fun b o _ _ hc e _ => ⟨o.slots, k b o hc e⟩)
    (fun _ _ _ _ n => n) (fun b o hc e => ⟨o, k b o hc e⟩) (fun _ _ e => e) (fun _ _ _ e => e) (fun b ps e => ⟨#[], by rw [e]; simp⟩) (fun m hm => ?_) (fun b u e => ?_) I.bare
  · obtain ⟨o, es, ep, ho, r⟩ := hm
    exact ⟨o, es, ep, k _ o (fun z => (hf _ z).2.1 rfl) ho, r⟩
  · refine (I.hok b u e).stay (fun c v hc q => k c v ?_ q) (fun _ q => q) fun _ _ q => q
    rcases hc with z | z
    · rw [z]; exact nit b u e
    · exact nit c _ z
theorem Inv.turnedNew {t' : Nat} {ch : List Addr} {T : Addr} {ob : HO} (I : Inv X pins σ H s) (k : ∀ b o, b ∉ ch → s.heap.get? b = some o → h'.get? b = some o) (hf : ∀ b ∈ ch, FpOk X pins H b) (hT : s.heap.objs.size ≤ T)
    (new : ObjOk X.prog X.w (upd H T ob) h' T ob) : Inv X pins σ (upd H T ob) { s with heap := h', toks := t' } := by
  have hn : H T = none := I.hok.fresh hT
  have nit : ∀ b u, H b = some u → b ∉ ch := fun b u e z => by
    have q := (hf b z).1
    rw [q] at e; cases e
  refine I.step (g' := s.gens) (d' := s.drawn) (ch := ch) (fun b hb => ⟨(hf b hb).2.2.2.1, (hf b hb).2.1, (hf b hb).2.2.2.2.1, (hf b hb).2.2.2.2.2⟩) (fun b o _ _ hc e _ => k b o hc e) (fun b o _ _ hc e _ => ⟨o.slots, k b o hc e⟩)
    (fun b o _ e n => ?_) (fun b o hc e => ⟨o, k b o hc e⟩) (fun b xs e => ?_) (fun b o u e => ?_) (fun b ps e => ⟨#[], ?_⟩) (fun m hm => ?_) (fun b u e => ?_) I.bare
  · rw [upd_ne (Nat.ne_of_lt (Nat.lt_of_lt_of_le (Heap.lt_size e) hT))]; exact n
  · rw [upd_ne (ne_of_none e hn)]; exact e
  · rw [upd_ne (ne_of_none e hn)]; exact e
  · rw [upd_ne (ne_of_none e hn), e]; simp
  · obtain ⟨o, es, ep, ho, r⟩ := hm
    exact ⟨o, es, ep, k _ o (fun z => (hf _ z).2.1 rfl) ho, r⟩
  · by_cases hb : b = T
    · subst hb
      rw [upd_same] at e
      cases e
      exact new
    · rw [upd_ne hb] at e
      refine (I.hok b u e).stay (fun c v hc q => k c v ?_ q) (fun c q => by rw [upd_ne (ne_of_none q hn)]; exact q) fun c xs q => by rw [upd_ne (ne_of_none q hn)]; exact q
      rcases hc with z | z
      · rw [z]; exact nit b u e
      · exact nit c _ z
end
section
variable {X : Cx}
theorem pi_one {tg : Expr} {pins : List (Addr × Obj)} {σ : St} {H : Hp} {s : Shared} {R : It → Hp → Prop} {J : It} {tn : Nat → Heap → Prop} {tk : Nat} (I : Inv X pins σ H s) (o : Obj)
    (T : Turn X.prog X.w X.K tg J [s.heap.objs.size] s.heap.objs.size tn) (st : tn 0 (s.heap.push o)) (q : R J H) : PIE X pins σ tg R (.ref s.heap.objs.size) { s with heap := s.heap.push o, toks := tk } := by
  refine ⟨s.heap.objs.size, [s.heap.objs.size], tn, J, H, rfl, I.kept fun b ob e => Heap.get?_push_of_some _ e, T, st, fun b hb => ?_, q⟩
  have e : b = s.heap.objs.size := by simpa using hb
  subst e
  exact I.fpOk (Nat.le_refl _) (I.hok.fresh (Nat.le_refl _))
end
section
variable {X : Cx} {tg : Expr}
end
section
variable {X : Cx} {tg : Expr}
end
def Its (x : Str) : It := ⟨fun i _ => i < x.cps.size, fun i H v H' => H' = H ∧ ∃ c, x.cps[i]? = some c ∧ v = .str ⟨#[c]⟩, fun i _ => x.cps.size ≤ i⟩
theorem turn_str {P : Program} {w : World} {K : PySem.W.Frag} {tg : Expr} (it : Addr) (x : Str) (t : Tok) (ty : String) (hty : ty = "str_ascii_iterator" ∨ ty = "str_iterator") :
    Turn P w K tg (Its x) [it] it (fun i h => h.IsStrIter it ty x t i) where
  mem := by simp
  obj := fun i h st b hb => by
    have e : b = it := by simpa using hb
    subst e
    obtain ⟨o, e, c, d⟩ := st
    exact ⟨o, e, fun v z => by rw [d] at z; cases z⟩
  keep := fun i h h' st k => let ⟨o, ho, r⟩ := st; ⟨o, k it (by simp) o ho, r⟩
  item := by
    intro X hP hw hK hc i pins s σ H E I hf st hg
    subst hP hw hK
    obtain ⟨f0, f1, f2, f3, f4, f5⟩ := hf it (by simp)
    have W : Walks X.prog X.w X.A it [it] [it] x.cps.size (SignAt x) (fun i h => h.IsStrIter it ty x t i) := by
      rcases hty with e | e
      · rw [e]; exact Walks.strAscii (I.ok.hd hc) it x t
      · rw [e]; exact Walks.strWide (I.ok.hd hc) it x t
    have hno : ["enumerate", "zip", "dict_itemiterator", "dict_reverseitemiterator", "odict_iterator", "itertools.zip_longest", "itertools.pairwise"].contains ty = false := by
      rcases hty with e | e
      · rw [e]; decide
      · rw [e]; decide
    refine W.item i s _ _ hg st fun v h' tk hv st' kk => ?_
    obtain ⟨c, u, hcx, rfl⟩ := hv
    have I1 : Inv X pins σ H { s with heap := h', toks := tk } := I.turned (fun b o hb e => kk b o (by simpa using hb) e) f0 f1 f3 f4 f5
    obtain ⟨oi, e, cc, dd⟩ := id st'
    exact ⟨_, rfl, go_of (s := { s with heap := h', toks := tk }) e cc dd hno ⟨.str ⟨#[c]⟩, H, I1, ⟨u, rfl⟩, ⟨rfl, c, hcx, rfl⟩, st', fun b hb => (hf b hb).1⟩⟩
  done := by
    intro X hP hw hK hc i pins s σ H E I hf st hg
    subst hP hw hK
    obtain ⟨f0, f1, f2, f3, f4, f5⟩ := hf it (by simp)
    have hx : x.cps[i]? = none := Array.getElem?_eq_none hg
    rcases hty with e | e
    · rw [e] at st
      exact wpAny_pyNext_ascii_end (I.ok.hd hc) st hx fun h' eb => ⟨rfl, I.turned (t' := s.toks) (fun b o hb e => eb b o hb e) f0 f1 f3 f4 f5⟩
    · rw [e] at st
      exact wpAny_pyNext_wide_end (I.ok.hd hc) st hx fun h' eb => ⟨rfl, I.turned (t' := s.toks) (fun b o hb e => eb b o hb e) f0 f1 f3 f4 f5⟩
  self := fun A i s Q E st h => by
    rcases hty with e | e
    · rw [e] at st; exact wpAny_pyIter_striter_ascii st h
    · rw [e] at st; exact wpAny_pyIter_striter_wide st h
def iStr (te : TE) : TI := fun σ H R => te σ H fun v H1 => ∃ x, v = .str x ∧ R (Its x) H1
theorem pi_str {X : Cx} {tg e : Expr} {te : TE} (he : PE X e te) : PI X tg e (iStr te) := by
  intro pins s σ H R I h
  refine thn (he pins s σ H _ I h) fun v s1 ⟨y, H1, I1, r1, x, ex, q⟩ => ?_
  subst ex
  obtain ⟨t, rfl⟩ := r1
  cases ha : x.cps.all (· < 128)
  · exact wpAny_pyIter_wide ha (pi_one (tk := s1.toks) I1 _ (turn_str _ x t "str_iterator" (.inr rfl)) ⟨_, Heap.get?_push_size _ rfl, rfl, rfl⟩ q)
  · exact wpAny_pyIter_ascii ha (pi_one (tk := s1.toks) I1 _ (turn_str _ x t "str_ascii_iterator" (.inl rfl)) ⟨_, Heap.get?_push_size _ rfl, rfl, rfl⟩ q)
section
variable {prog : Program} {w : World} {A : Around} {E : Value → Shared → Prop} {s : Shared}
end
section
variable {X : Cx} {pins : List (Addr × Obj)} {σ : St} {H : Hp} {s : Shared} {d : Addr} {o : Obj}
end
section
variable {P : Program} {w : World} {K : PySem.W.Frag} {tg : Expr} {d : Addr} {o : Obj} {es : Array DictEntry} {ep : Nat}
end
section
variable {X : Cx} {tg e : Expr} {td : TE} {apos cpos : Pos}
end
theorem boot_zip5 : bootBuiltins "zip" = some (.type "zip") := by decide +kernel
def Itz (K : PySem.W.Frag) (a b : Addr) : It :=
  ⟨fun i H => ∃ (xs ys : List V) (x y : V), SqL K H a xs ∧ SqL K H b ys ∧ xs[i]? = some x ∧ ys[i]? = some y,
    fun i H v H' => ∃ T x y, v = .ref T ∧ H T = none ∧ H' = upd H T (.tup [x, y]) ∧ (∀ xs, SqL K H a xs → xs[i]? = some x) ∧ ∀ ys, SqL K H b ys → ys[i]? = some y,
    fun i H => ∃ xs ys : List V, SqL K H a xs ∧ SqL K H b ys ∧ (xs.length ≤ i ∨ ys.length ≤ i)⟩
theorem turn_zip {P : Program} {w : World} {K : PySem.W.Frag} {elts : List Expr} {kk : Nat} {tpos : Pos} {a b z TI TO i1 i2 : Addr} (D : ZipApart z TI TO i1 i2 a b) :
    Turn P w K (.Tuple elts kk tpos) (Itz K a b) [z, TI, TO, i1, i2] z (fun i h => IsZip h z TI TO .none ∧ IsPair h TI (.ref i1) (.ref i2) ∧ (∃ x y, IsPair h TO x y) ∧ h.IsListIter i1 a i ∧ h.IsListIter i2 b i) where
  mem := by simp
  obj := fun i h st c hc => by
    obtain ⟨hz, hTI, ⟨x, y, hTO⟩, ⟨o1, e1, _, d1⟩, ⟨o2, e2, _, d2⟩⟩ := st
    have e' : c = z ∨ c = TI ∨ c = TO ∨ c = i1 ∨ c = i2 := by simpa using hc
    rcases e' with q | q | q | q | q
    · rw [q]; exact ⟨_, hz, fun v q => nomatch q⟩
    · rw [q]; exact ⟨_, hTI, fun v q => nomatch q⟩
    · rw [q]; exact ⟨_, hTO, fun v q => nomatch q⟩
    · rw [q]; exact ⟨o1, e1, fun v q => by rw [d1] at q; cases q⟩
    · rw [q]; exact ⟨o2, e2, fun v q => by rw [d2] at q; cases q⟩
  keep := fun i h h' st k => by
    obtain ⟨hz, hTI, ⟨x, y, hTO⟩, h1, h2⟩ := st
    exact ⟨k z (by simp) _ hz, k TI (by simp) _ hTI, ⟨x, y, k TO (by simp) _ hTO⟩, h1.at fun o q => k i1 (by simp) o q, h2.at fun o q => k i2 (by simp) o q⟩
  item := by
    intro X hP hw hK hc i pins s σ H E I hf st hg
    subst hP hw hK
    obtain ⟨hz, hTI, ⟨x0, y0, hTO⟩, h1, h2⟩ := st
    obtain ⟨xs, ys, x, y, hqx, hqy, hx, hy⟩ := hg
    obtain ⟨its, rv, p, _⟩ := I.list hqx
    obtain ⟨its2, rv2, p2, _⟩ := I.list hqy
    obtain ⟨u, hu, ru⟩ := rv.get hx
    obtain ⟨u2, hu2, ru2⟩ := rv2.get hy
    have hzl : z < s.heap.objs.size := Heap.lt_size hz
    refine wpAny_pyNext_zip_item D hz hTI hTO h1 h2 p.isList p2.isList (x := u) (y := u2) (by simpa using hu) (by simpa using hu2) fun h' z' TO' h1' h2' hT hsz hk => ?_
    refine ⟨_, rfl, wpAny_letOwnedTupleGo_zip (s := { s with heap := h' }) z' fun h'' z'' sb => ?_⟩
    have hT2 : h''.get? s.heap.objs.size = some { cls := .type "tuple", data := .seq #[u, u2] } := (sb.2 _ (Nat.ne_of_gt hzl)).trans hT
    have new : ObjOk X.prog X.w (upd H s.heap.objs.size (.tup [x, y])) h'' s.heap.objs.size (.tup [x, y]) :=
      ⟨by show 2 ≤ sizeLine; decide, [u, u2], .cons ru (.cons ru2 .nil), ⟨_, hT2, rfl, _, rfl⟩⟩
    have I1 : Inv X pins σ (upd H s.heap.objs.size (.tup [x, y])) { s with heap := h'' } :=
      I.turnedNew (t' := s.toks) (ch := [z, TI, TO, i1, i2]) (fun c o hb q => (sb.2 c (fun q' => hb (by simp [q']))).trans (hk c o (fun q' => hb (by simp [q'])) (fun q' => hb (by simp [q'])) (fun q' => hb (by simp [q'])) (fun q' => hb (by simp [q'])) q)) hf (Nat.le_refl _) new
    refine ⟨.ref s.heap.objs.size, _, I1, rfl, ⟨_, x, y, rfl, I.hok.fresh (Nat.le_refl _), rfl, fun l hl => by rw [I.list_inj hl hqx]; exact hx, fun l hl => by rw [I.list_inj hl hqy]; exact hy⟩, ⟨z'', ?_, ⟨u, u2, ?_⟩, ?_, ?_⟩, fun c hcm => ?_⟩
    · exact (sb.2 _ D.TIz).trans (hk _ _ D.TIz D.TITO D.TIi1 D.TIi2 hTI)
    · exact (sb.2 _ D.TOz).trans TO'
    · exact h1'.at fun o q => (sb.2 _ D.i1z).trans q
    · exact h2'.at fun o q => (sb.2 _ D.i2z).trans q
    · have hlt : c < s.heap.objs.size := by
        have e' : c = z ∨ c = TI ∨ c = TO ∨ c = i1 ∨ c = i2 := by simpa using hcm
        rcases e' with q | q | q | q | q
        · rw [q]; exact hzl
        · rw [q]; exact Heap.lt_size hTI
        · rw [q]; exact Heap.lt_size hTO
        · rw [q]; obtain ⟨_, e1, _⟩ := h1; exact Heap.lt_size e1
        · rw [q]; obtain ⟨_, e2, _⟩ := h2; exact Heap.lt_size e2
      rw [upd_ne (Nat.ne_of_lt hlt)]
      exact (hf c hcm).1
  done := by
    intro X hP hw hK hc i pins s σ H E I hf st hg
    subst hP hw hK
    obtain ⟨hz, hTI, ⟨x0, y0, hTO⟩, h1, h2⟩ := st
    obtain ⟨xs, ys, hqx, hqy, hend⟩ := hg
    obtain ⟨its, rv, p, _⟩ := I.list hqx
    obtain ⟨its2, rv2, p2, _⟩ := I.list hqy
    have l1 := rv.length
    have l2 := rv2.length
    have he : its.toArray[i]? = none ∨ its2.toArray[i]? = none := by
      rcases hend with q | q
      · exact .inl (by simp; omega)
      · exact .inr (by simp; omega)
    exact wpAny_pyNext_zip_end (I.ok.hd hc) D hz hTI hTO h1 h2 p.isList p2.isList he fun h' hk => ⟨rfl, I.turnedL (t' := s.toks) (ch := [z, TI, TO, i1, i2]) (fun c o hb q =>
      hk c o (fun q' => hb (by simp [q'])) (fun q' => hb (by simp [q'])) (fun q' => hb (by simp [q'])) (fun q' => hb (by simp [q'])) q) hf⟩
  self := fun A i s Q E st h => wpAny_pyIter_zip st.1 h
def iZip (K : PySem.W.Frag) (ta : TA) : TI := fun σ H R => ta σ H fun vs H1 => ∃ a b xs ys, vs = [.ref a, .ref b] ∧ SqL K H1 a xs ∧ SqL K H1 b ys ∧ R (Itz K a b) H1
theorem pi_zip {X : Cx} {e e2 : Expr} {ta : TA} {p pos tpos : Pos} {elts : List Expr} {kk : Nat} (hg : Gl X "zip") (hm : X.mg "zip" = none) (ha : PA X [e, e2] ta)
    (hs : starEach [e, e2] X.env = (false, eval e X.env) :: starEach [e2] X.env := by rfl) (hpl : (backTo pos (starEach [e2] X.env)).any (·.1) = false := by rfl) :
    PI X (.Tuple elts kk tpos) (.Call (.Name "zip" p) [e, e2] [] pos) (iZip X.K ta) := by
  intro pins s σ H R I h
  refine Call_ (ld_blt I hg hm boot_zip5 (PyProof.Rows.callWith_type1 (thn (ha pos pins s σ H _ I h) fun us s1 ⟨vs, H1, I1, r1, q1⟩ => ?_) hs hpl))
  obtain ⟨a, b, xs, ys, ex, hqx, hqy, q⟩ := q1
  subst ex
  cases r1 with
  | cons r rr =>
    cases rr with
    | cons r' rr =>
      cases rr
      cases r
      cases r'
      obtain ⟨its, rv, p1, _⟩ := I1.list hqx
      obtain ⟨its2, rv2, p2, _⟩ := I1.list hqy
      have la : a < s1.heap.objs.size := p1.lt
      have lb : b < s1.heap.objs.size := p2.lt
      refine call_zip_2 p1.isList p2.isList fun h' hz hTI hTO h1 h2 hsz hk => wpAny_pyIter_zip hz ?_
      have I2 : Inv X pins σ H1 { s1 with heap := h' } := I1.kept (t' := s1.toks) hk
      refine ⟨s1.heap.objs.size + 4, [s1.heap.objs.size + 4, s1.heap.objs.size + 2, s1.heap.objs.size + 3, s1.heap.objs.size, s1.heap.objs.size + 1], _, _, H1, rfl, I2, turn_zip (PySem.W.ktu_apart s1.heap.objs.size a b la lb), ⟨hz, hTI, ⟨_, _, hTO⟩, h1, h2⟩, fun c hcm => ?_, q⟩
      have e' : c = s1.heap.objs.size + 4 ∨ c = s1.heap.objs.size + 2 ∨ c = s1.heap.objs.size + 3 ∨ c = s1.heap.objs.size ∨ c = s1.heap.objs.size + 1 := by simpa using hcm
      have hle : s1.heap.objs.size ≤ c := by
        rcases e' with z | z | z | z | z
        · rw [z]; exact Nat.le_add_right _ _
        · rw [z]; exact Nat.le_add_right _ _
        · rw [z]; exact Nat.le_add_right _ _
        · rw [z]; exact Nat.le_refl _
        · rw [z]; exact Nat.le_add_right _ _
      exact I1.fpOk hle (I1.hok.fresh hle)
end L2
section 
namespace Bits
open PySem PyProof.Rows
end Bits
end 
section 
namespace TL
open PySem PySem.Builtin PySem.Builtin.Str PySem.StrLaws
end TL
end 
namespace L2
open PySem PySem.Spec PyProof.Rows
section
variable {X : Cx} {pins : List (Addr × Obj)} {σ : St} {H : Hp} {s : Shared} {Q : VK}
end
section
variable {X : Cx}
end
section
variable {X : Cx} {o e : Expr} {to te : TE}
end
end L2
namespace L2
open PySem PySem.Spec PyProof.Rows
section
variable {X : Cx}
end
end L2
namespace Att
open PySem PySem.W PySem.Calls PyProof.Rows
section
variable {prog : Program} {w : World} {A : Around} {E : Value → Shared → Prop} {s : Shared} {K : Frag}
end
end Att
namespace L2
open PySem PySem.Spec PyProof.Rows
end L2
namespace L2
open PySem PySem.Spec PyProof.Rows
abbrev KOf {K : PySem.W.Frag} {h : Heap} (_ : K.In h) : PySem.W.Frag := K
end L2
namespace L2
open PySem PySem.Spec PyProof.Rows
def inClass (s : Stmt) (j : Nat) : Stmt := match s with
  | .ClassDef _ _ _ body _ _ _ _ _ _ _ => body.getD j (.Pass ⟨0, 0, 0, 0⟩)
  | _ => .Pass ⟨0, 0, 0, 0⟩
def defArgs (s : Stmt) : Arguments := match s with
  | .FunctionDef _ a _ _ _ _ _ _ _ _ => a
  | _ => { posonlyargs := [], args := [], vararg := none, kwonlyargs := [], kw_defaults := [], kwarg := none, defaults := [] }
def defBody (s : Stmt) : List Stmt := match s with
  | .FunctionDef _ _ b _ _ _ _ _ _ _ => b
  | _ => []
def defScope (s : Stmt) : Scope := match s with
  | .FunctionDef _ _ _ _ _ _ sc _ _ _ => sc
  | _ => { kind := .function, names := [], isGenerator := false, isCoroutine := false }
abbrev CX0 : CXT := fun _ _ _ _ _ _ => False
abbrev E0 : XK := fun _ _ _ => False
theorem pass0 {X : Cx} : Passes CX0 X E0 := fun _ _ _ _ _ _ _ h => h.elim
structure Fun (K : PySem.W.Frag) (x qual : Str) (st : Stmt) (f : Addr) (fd : FuncData) : Prop where
  ex : ∃ (oc : Value) (od : Option Addr) (kV doc pm : Value) (an : Option Addr) (cdv ct : Value) (osl : Array (Option Value)),
    fd = PySem.W.fnOf x qual (defArgs st) (defBody st) (defScope st) .none kV doc pm an cdv ct ∧ K.lookup f = some ⟨oc, od, .func fd, osl⟩ ∧ PySem.W.codeIn K cdv qual = true
  kp : PySem.W.keepIn K (.ref f) = true
section
variable {P : Program} {w : World} {K : PySem.W.Frag} {mg : Str → Option Value} {base : Heap}
theorem Fun.ok {x qual : Str} {st : Stmt} {f : Addr} {fd : FuncData} {N ps : List Str} {k : Nat} {sp : Sp} (F : Fun K x qual st f fd) (S : FnScope N ps (defScope st)) (len : ∀ vs H Q E, sp vs H Q E → vs.length = ps.length)
    (hbody : ∀ (cdv : Value) (A : Around) (outer : List Env) (s : Shared) (H : Hp) (vs : List V) (Q : VK) (E : XK), Room k (A.deeper (envOfC qual (defScope st) s.heap.objs.size f cdv)) → sp vs H Q E →
      ∃ t, PSs (cxOf CX0 P w K mg base N qual (defScope st) f cdv A outer s H E).nox (defBody st) t ∧ t { nx := fun _ H' => Q .non H', rt := Q } (start N vs) H) : FnOk P w K mg base CX0 (k + 1) f fd ps sp := by
  obtain ⟨oc, od, kV, doc, pm, an, cdv, ct, osl, rfl, lk, hcd⟩ := F.ex
  refine fn_of lk hcd S len fun A outer s H vs Q E hr hsp => ?_
  obtain ⟨t, h, q⟩ := hbody cdv A outer s H vs Q E hr hsp
  exact ⟨t, h.nox, q⟩
theorem Fun.binds {x qual : Str} {st : Stmt} {f : Addr} {fd : FuncData} {ps : List Str} (F : Fun K x qual st f fd)
    (h : ∀ (kV doc pm : Value) (an : Option Addr) (cdv ct : Value) (us : List Value), us.length = ps.length → bindArgs (PySem.W.fnOf x qual (defArgs st) (defBody st) (defScope st) .none kV doc pm an cdv ct) ⟨us, []⟩ = pure (ps.zip us)) : Binds K fd ps [] := by
  obtain ⟨oc, od, kV, doc, pm, an, cdv, ct, osl, rfl, lk, hcd⟩ := F.ex
  exact .all (h kV doc pm an cdv ct)
theorem fun_mk {x qual : Str} {st : Stmt} {f : Addr} {oc : Value} {od an : Option Addr} {osl : Array (Option Value)} {kV doc pm cdv ct : Value} (l : K.lookup f = some ⟨oc, od, .func (PySem.W.fnOf x qual (defArgs st) (defBody st) (defScope st) .none kV doc pm an cdv ct), osl⟩)
    (c : PySem.W.codeIn K cdv qual = true) (k : PySem.W.keepIn K (.ref f) = true) : Fun K x qual st f (PySem.W.fnOf x qual (defArgs st) (defBody st) (defScope st) .none kV doc pm an cdv ct) := ⟨⟨oc, od, kV, doc, pm, an, cdv, ct, osl, rfl, l, c⟩, k⟩
end
section
variable {X : Cx}
theorem pv (i : Nat) {x : Str} {pos : Pos} (hN : X.N[i]? = some x := by rfl) (hv : Vis X.env.scope x := by first | exact Or.inl rfl | exact Or.inr (Or.inl rfl) | exact Or.inr (Or.inr rfl)) (hd : (x == ("__debug__" : Str)) = false := by decide)
    (hcd : (x == ("__classdict__" : Str)) = false := by decide) : PE X (.Name x pos) (tVar i) := pe_var hN hv hd hcd
end
theorem iteF {A B : Prop} (h : B) : if false = true then A else B := by
  rw [if_neg Bool.false_ne_true]
  exact h
theorem iteT {A B : Prop} (h : A) : if true = true then A else B := by
  rw [if_pos rfl]
  exact h
def Same (H H' : Hp) : Prop := ∀ b o, H b = some o → H' b = some o
theorem Same.refl (H : Hp) : Same H H := fun _ _ h => h
theorem Same.trans {H H1 H2 : Hp} (a : Same H H1) (b : Same H1 H2) : Same H H2 := fun c o h => b c o (a c o h)
theorem Same.free {H H' : Hp} (e : Same H H') {l : Addr} (h : H' l = Option.none) : H l = Option.none := by
  cases q : H l with
  | none => rfl
  | some o =>
    rw [e l o q] at h
    cases h
theorem Same.seq {K : PySem.W.Frag} {H H' : Hp} {a : Addr} {xs : List V} (e : Same H H') (h : SqL K H a xs) : SqL K H' a xs := by
  rcases h with (h | ⟨o, h⟩) | h
  · exact .inl (.inl (e _ _ h))
  · exact .inl (.inr ⟨o, e _ _ h⟩)
  · exact .inr h
section
variable {κ : Type} [DecidableEq κ]
end
theorem at_of {xs : List V} {z : Int} {j : Nat} {v : V} (e : z = (j : Int)) (h : xs[j]? = some v) : atI xs z = some v := by
  rw [e]
  exact atI_nat h
theorem Same.made {H H1 : Hp} {x dx C : Addr} (nx : H x = Option.none) (nd : H dx = Option.none) (k : ∀ b o, (upd (upd H dx (.own x)) x (.ins C dx [])) b = some o → b ≠ x → H1 b = some o) : Same H H1 := fun b o e =>
  k b o (by rw [upd_ne (ne_of_none e nx), upd_ne (ne_of_none e nd)]; exact e) (ne_of_none e nx)
end L2
set_option maxHeartbeats 2000000
namespace L2
open PySem PySem.Spec PyProof.Rows
open PySem.W (WData Codec OpenSpec Well WellAll ReadsW ReadsAllW)
mutual
/-- x stands for the datum d, lists and tuples all the way -/
inductive Dw (K : PySem.W.Frag) (H : Hp) : V → WData → Prop
  | non : Dw K H .non .none
  | bl (b : Bool) : Dw K H (.bl b) (.bool b)
  | int (i : Int) : Dw K H (.int i) (.int i)
  | str (x : Str) : Dw K H (.str x) (.str x)
  | byt (b : Array UInt8) : Dw K H (.byt b) (.bytes b.toList)
  | lst {a : Addr} {xs : List V} {ds : List WData} : SqL K H a xs → DwAll K H xs ds → Dw K H (.ref a) (.list ds)
  | tup {a : Addr} {xs : List V} {ds : List WData} : SqT K H a xs → DwAll K H xs ds → Dw K H (.ref a) (.tuple ds)
inductive DwAll (K : PySem.W.Frag) (H : Hp) : List V → List WData → Prop
  | nil : DwAll K H [] []
  | cons {v : V} {vs : List V} {d : WData} {ds : List WData} : Dw K H v d → DwAll K H vs ds → DwAll K H (v :: vs) (d :: ds)
end
theorem dw_ints {K : PySem.W.Frag} {H : Hp} : ∀ ns : List Int, DwAll K H (ns.map V.int) (ns.map WData.int)
  | [] => .nil
  | n :: r => .cons (.int n) (dw_ints r)
theorem ints_dw {K : PySem.W.Frag} {H : Hp} : ∀ (ns : List Int) (xs : List V), DwAll K H xs (ns.map WData.int) → xs = ns.map V.int
  | [], xs, h => by
    cases h
    rfl
  | n :: r, xs, h => by
    cases h with
    | cons h1 h2 =>
      cases h1
      rw [ints_dw r _ h2] <;> rfl
section
variable {P : Program} {w : World} {K : PySem.W.Frag} {H : Hp} {h : Heap} {R : PySem.W.WRecords} {cl : Str → Option Addr}
theorem sqL_at {a : Addr} {xs : List V} (hok : HOk P w H h) (KX : K.In h) (q : SqL K H a xs) : ∃ (its : List Value) (o : Obj) (n : Nat), Vals xs its ∧ h.get? a = some o ∧ o.cls = .type "list" ∧ o.data = .seq its.toArray n := by
  rcases q with q | ⟨o, its, n, e, hc, _, hd, _, hv⟩
  · obtain ⟨_, its, n, hv, e⟩ := (show ObjOk P w H h a (.lst xs) from q.ok hok)
    exact ⟨its, _, n, hv, e, rfl, rfl⟩
  · exact ⟨its.toList, o, n, hv, KX _ _ e, hc, by simp [hd]⟩
theorem sqT_at {a : Addr} {xs : List V} (hok : HOk P w H h) (KX : K.In h) (q : SqT K H a xs) : ∃ (its : List Value) (o : Obj) (n : Nat), Vals xs its ∧ h.get? a = some o ∧ o.cls = .type "tuple" ∧ o.data = .seq its.toArray n := by
  rcases q with q | ⟨o, its, n, e, hc, hd, _, hv⟩
  · obtain ⟨_, its, hv, o, e, hc, n, hd⟩ := (show ObjOk P w H h a (.tup xs) from q.ok hok)
    exact ⟨its, o, n, hv, e, hc, hd⟩
  · exact ⟨its.toList, o, n, hv, KX _ _ e, hc, by simp [hd]⟩
mutual
theorem Dw.reads (hok : HOk P w H h) (KX : K.In h) : ∀ (d : WData) (v : V) (u : Value), Dw K H v d → RelV v u → ∃ as, ReadsW R cl h u d as
  | .none, _, _, x, r => by
    cases x
    cases r
    exact ⟨_, ReadsW.none⟩
  | .bool b, _, _, x, r => by
    cases x
    cases r
    exact ⟨_, ReadsW.bool b⟩
  | .int i, _, _, x, r => by
    cases x
    obtain ⟨t, rfl⟩ := r
    exact ⟨_, ReadsW.int i t⟩
  | .str s, _, _, x, r => by
    cases x
    obtain ⟨t, rfl⟩ := r
    exact ⟨_, ReadsW.str s t⟩
  | .bytes b, _, _, x, r => by
    cases x
    obtain ⟨t, rfl⟩ := r
    exact ⟨_, ReadsW.bytes _ t⟩
  | .list ds, _, _, x, r => by
    cases x with
    | lst hs ha =>
      cases r
      obtain ⟨its, o, n, rv, ho, hc, hd⟩ := sqL_at hok KX hs
      obtain ⟨as, hr⟩ := Dw.readsAll hok KX ds _ its ha rv
      exact ⟨_, ReadsW.list ho hc hd hr⟩
  | .tuple ds, _, _, x, r => by
    cases x with
    | tup hs ha =>
      cases r
      obtain ⟨its, o, n, rv, ho, hc, hd⟩ := sqT_at hok KX hs
      obtain ⟨as, hr⟩ := Dw.readsAll hok KX ds _ its ha rv
      exact ⟨_, ReadsW.tuple ho hc hd hr⟩
  | .float _, _, _, x, _ => by cases x
  | .dict _, _, _, x, _ => by cases x
  | .bytearray _, _, _, x, _ => by cases x
  | .set _, _, _, x, _ => by cases x
  | .frozenset _, _, _, x, _ => by cases x
  | .obj _ _, _, _, x, _ => by cases x
theorem Dw.readsAll (hok : HOk P w H h) (KX : K.In h) : ∀ (ds : List WData) (vs : List V) (us : List Value), DwAll K H vs ds → Vals vs us → ∃ as, ReadsAllW R cl h us ds as
  | [], _, _, x, r => by
    cases x
    cases r
    exact ⟨_, ReadsAllW.nil⟩
  | d :: ds, _, _, x, r => by
    cases x with
    | cons h1 h2 =>
      cases r with
      | cons r1 r2 =>
        obtain ⟨as, q1⟩ := Dw.reads hok KX d _ _ h1 r1
        obtain ⟨bs, q2⟩ := Dw.readsAll hok KX ds _ _ h2 r2
        exact ⟨_, ReadsAllW.cons q1 q2⟩
end
end
mutual
/-- data that a codec tells -/
def plW : WData → Bool
  | .none => true
  | .bool _ => true
  | .int _ => true
  | .str _ => true
  | .bytes _ => true
  | .list xs => plWs xs
  | .tuple xs => plWs xs
  | _ => false
def plWs : List WData → Bool
  | [] => true
  | x :: r => plW x && plWs r
end
theorem plWs_map {α : Type} {f : α → WData} (h : ∀ a, plW (f a) = true) : ∀ l : List α, plWs (l.map f) = true
  | [] => rfl
  | x :: r => by
    show (plW (f x) && plWs (r.map f)) = true
    rw [h x, plWs_map h r] <;> rfl
theorem pl_enc : ∀ (c : Codec) (a : c.denote), plW (c.enc a) = true
  | .unit, _ => rfl
  | .bool, _ => rfl
  | .int _ _, _ => rfl
  | .nat _ _, _ => rfl
  | .u8, _ => rfl
  | .bytes _ _, _ => rfl
  | .text _ _ _ _, _ => rfl
  | .list _ _ c, a => plWs_map (fun x => pl_enc c x) a
  | .pair c d, a => by
    show (plW (c.enc a.1) && (plW (d.enc a.2) && true)) = true
    rw [pl_enc c a.1, pl_enc d a.2] <;> rfl
  | .triple c d e, a => by
    show (plW (c.enc a.1) && (plW (d.enc a.2.1) && (plW (e.enc a.2.2) && true))) = true
    rw [pl_enc c a.1, pl_enc d a.2.1, pl_enc e a.2.2] <;> rfl
  | .option c, none => rfl
  | .option c, some x => pl_enc c x
theorem pl_encAll : ∀ (cs : List Codec) (a : Codec.denoteAll cs), plWs (Codec.encAll cs a) = true
  | [], _ => rfl
  | c :: cs, a => by
    show (plW (c.enc a.1) && plWs (Codec.encAll cs a.2)) = true
    rw [pl_enc c a.1, pl_encAll cs a.2] <;> rfl
theorem weight_mem : ∀ {xs : List WData} {d : WData}, d ∈ xs → d.weight ≤ WData.weightAll xs
  | [], d, h => absurd h (by simp)
  | x :: r, d, h => by
    show d.weight ≤ x.weight + 1 + WData.weightAll r
    rcases List.mem_cons.mp h with e | m
    · rw [e]
      omega
    · have z := weight_mem m
      omega
def toV : Value → V
  | .none => .non
  | .bool b => .bl b
  | .int i _ => .int i
  | .str x _ => .str x
  | .bytes b _ => .byt b
  | .ref a => .ref a
  | _ => .non
def OkU (A : List Addr) : Value → Prop
  | .none => True
  | .bool _ => True
  | .int _ _ => True
  | .str _ _ => True
  | .bytes _ _ => True
  | .ref a => a ∈ A
  | _ => False
theorem OkU.mono {A B : List Addr} (h : ∀ a ∈ A, a ∈ B) : ∀ {u : Value}, OkU A u → OkU B u := fun {u} x => by
  cases u with
  | ref a => exact h a x
  | none => trivial
  | bool b => trivial
  | int i t => trivial
  | str s t => trivial
  | bytes b t => trivial
  | _ => exact False.elim x
theorem relV_toV {A : List Addr} {u : Value} (x : OkU A u) : RelV (toV u) u := by
  cases u with
  | ref a => rfl
  | none => rfl
  | bool b => rfl
  | int i t => exact ⟨t, rfl⟩
  | str s t => exact ⟨t, rfl⟩
  | bytes b t => exact ⟨t, rfl⟩
  | _ => exact False.elim x
theorem vals_toV {A : List Addr} : ∀ {vs : List Value}, (∀ u ∈ vs, OkU A u) → Vals (vs.map toV) vs
  | [], _ => .nil
  | u :: r, h => .cons (relV_toV (h u (List.mem_cons_self ..))) (vals_toV fun x hx => h x (List.mem_cons_of_mem _ hx))
def ArgOb (h : Heap) (A : List Addr) (a : Addr) : Prop := ∃ vs : List Value, vs.length ≤ sizeLine ∧ (∀ u ∈ vs, OkU A u) ∧
  (h.get? a = some { cls := .type "list", data := .seq vs.toArray } ∨ h.get? a = some { cls := .type "tuple", data := .seq vs.toArray })
theorem ArgOb.mono {h : Heap} {A B : List Addr} {a : Addr} (k : ∀ a ∈ A, a ∈ B) (x : ArgOb h A a) : ArgOb h B a := by
  obtain ⟨vs, h1, h2, h3⟩ := x
  exact ⟨vs, h1, fun u hu => (h2 u hu).mono k, h3⟩
theorem wellAll_len {P : Params} {h : Heap} : ∀ {vs : List Value} {ds : List WData}, WellAll P h vs ds → vs.length = ds.length
  | _, _, .nil => rfl
  | _, _, .cons _ b => by
    show _ + 1 = _ + 1
    rw [wellAll_len b]
theorem well_list {P : Params} {h : Heap} {v : Value} {ds : List WData} (x : Well P h v (.list ds)) : ∃ (a : Addr) (vs : List Value), v = .ref a ∧ h.get? a = some { cls := .type "list", data := .seq vs.toArray } ∧ WellAll P h vs ds := by
  cases x with
  | list ho hall => exact ⟨_, _, rfl, ho, hall⟩
theorem well_tuple {P : Params} {h : Heap} {v : Value} {ds : List WData} (x : Well P h v (.tuple ds)) : ∃ (a : Addr) (vs : List Value), v = .ref a ∧ h.get? a = some { cls := .type "tuple", data := .seq vs.toArray } ∧ WellAll P h vs ds := by
  cases x with
  | tuple ho hall => exact ⟨_, _, rfl, ho, hall⟩
theorem well_cons {P : Params} {h : Heap} {us : List Value} {d : WData} {ds : List WData} (x : WellAll P h us (d :: ds)) : ∃ (v : Value) (vs : List Value), us = v :: vs ∧ Well P h v d ∧ WellAll P h vs ds := by
  cases x with
  | cons a b => exact ⟨_, _, rfl, a, b⟩
theorem line_of {n : Nat} (h : n ≤ 1048576) : n ≤ sizeLine := Nat.le_trans h (by decide)
section
variable {P : Params} {h : Heap}
mutual
theorem area_one : ∀ (d : WData) (v : Value), Well P h v d → plW d = true → d.weight ≤ 1048576 → ∃ A : List Addr, OkU A v ∧ ∀ a ∈ A, ArgOb h A a
  | .none, _, x, _, _ => by
    cases x
    exact ⟨[], trivial, fun a m => absurd m (by simp)⟩
  | .bool b, _, x, _, _ => by
    cases x
    exact ⟨[], trivial, fun a m => absurd m (by simp)⟩
  | .int i, _, x, _, _ => by
    cases x
    exact ⟨[], trivial, fun a m => absurd m (by simp)⟩
  | .str s, _, x, _, _ => by
    cases x
    exact ⟨[], trivial, fun a m => absurd m (by simp)⟩
  | .bytes b, _, x, _, _ => by
    cases x
    exact ⟨[], trivial, fun a m => absurd m (by simp)⟩
  | .list ds, _, x, p, z => by
    obtain ⟨a, vs, rfl, ho, hall⟩ := well_list x
    have z2 : WData.weightAll ds ≤ 1048576 := z
    obtain ⟨A, h1, h2⟩ := area_all ds _ hall p fun d hd => Nat.le_trans (weight_mem hd) z2
    have k : ∀ b ∈ A, b ∈ a :: A := fun b hb => List.mem_cons_of_mem _ hb
    refine ⟨a :: A, List.mem_cons_self .., fun b hb => ?_⟩
    rcases List.mem_cons.mp hb with e | m
    · rw [e]
      exact ⟨vs, line_of (by rw [wellAll_len hall]; exact Nat.le_trans (PySem.W.length_le_weightAllW ds) z2), fun u hu => (h1 u hu).mono k, .inl ho⟩
    · exact (h2 b m).mono k
  | .tuple ds, _, x, p, z => by
    obtain ⟨a, vs, rfl, ho, hall⟩ := well_tuple x
    have z2 : WData.weightAll ds ≤ 1048576 := z
    obtain ⟨A, h1, h2⟩ := area_all ds _ hall p fun d hd => Nat.le_trans (weight_mem hd) z2
    have k : ∀ b ∈ A, b ∈ a :: A := fun b hb => List.mem_cons_of_mem _ hb
    refine ⟨a :: A, List.mem_cons_self .., fun b hb => ?_⟩
    rcases List.mem_cons.mp hb with e | m
    · rw [e]
      exact ⟨vs, line_of (by rw [wellAll_len hall]; exact Nat.le_trans (PySem.W.length_le_weightAllW ds) z2), fun u hu => (h1 u hu).mono k, .inr ho⟩
    · exact (h2 b m).mono k
  | .float _, _, _, p, _ => Bool.noConfusion (show false = true from p)
  | .dict _, _, _, p, _ => Bool.noConfusion (show false = true from p)
  | .bytearray _, _, _, p, _ => Bool.noConfusion (show false = true from p)
  | .set _, _, _, p, _ => Bool.noConfusion (show false = true from p)
  | .frozenset _, _, _, p, _ => Bool.noConfusion (show false = true from p)
  | .obj _ _, _, _, p, _ => Bool.noConfusion (show false = true from p)
theorem area_all : ∀ (ds : List WData) (vs : List Value), WellAll P h vs ds → plWs ds = true → (∀ d ∈ ds, d.weight ≤ 1048576) → ∃ A : List Addr, (∀ u ∈ vs, OkU A u) ∧ ∀ a ∈ A, ArgOb h A a
  | [], _, x, _, _ => by
    cases x
    exact ⟨[], fun u m => absurd m (by simp), fun a m => absurd m (by simp)⟩
  | d :: ds, _, x, p, z => by
    obtain ⟨v, vs, rfl, x1, x2⟩ := well_cons x
    have q : plW d = true ∧ plWs ds = true := Bool.and_eq_true_iff.mp p
    obtain ⟨A, a1, a2⟩ := area_one d v x1 q.1 (z d (List.mem_cons_self ..))
    obtain ⟨B, b1, b2⟩ := area_all ds vs x2 q.2 fun e he => z e (List.mem_cons_of_mem _ he)
    have kA : ∀ b ∈ A, b ∈ A ++ B := fun b hb => List.mem_append.mpr (.inl hb)
    have kB : ∀ b ∈ B, b ∈ A ++ B := fun b hb => List.mem_append.mpr (.inr hb)
    refine ⟨A ++ B, fun u hu => ?_, fun b hb => ?_⟩
    · rcases List.mem_cons.mp hu with e | m
      · rw [e]
        exact a1.mono kA
      · exact (b1 u m).mono kB
    · rcases List.mem_append.mp hb with m | m
      · exact (a2 b m).mono kA
      · exact (b2 b m).mono kB
end
end
def hoOf (o : Obj) : Option HO := match o.data with
  | .seq vs _ => if (o.cls == Value.type "list") = true then some (.frz o (.lst (vs.toList.map toV))) else some (.frz o (.tup (vs.toList.map toV)))
  | _ => none
def argH (K : PySem.W.Frag) (h : Heap) (A : List Addr) : Hp := fun b => if b ∈ A then (if (K.lookup b).isNone = true then (h.get? b).bind hoOf else none) else none
def OnlyF (H : Hp) : Prop := ∀ b, H b = none ∨ ∃ o u, H b = some (.frz o u)
theorem hoOf_lst (vs : List Value) : hoOf { cls := .type "list", data := .seq vs.toArray } = some (.frz { cls := .type "list", data := .seq vs.toArray } (.lst (vs.map toV))) := by
  show (if (Value.type "list" == Value.type "list") = true then some (HO.frz { cls := .type "list", data := .seq vs.toArray } (.lst (vs.toArray.toList.map toV))) else some (HO.frz { cls := .type "list", data := .seq vs.toArray } (.tup (vs.toArray.toList.map toV)))) = _
  rw [if_pos (beq_self_eq_true _)]
theorem hoOf_tup (vs : List Value) : hoOf { cls := .type "tuple", data := .seq vs.toArray } = some (.frz { cls := .type "tuple", data := .seq vs.toArray } (.tup (vs.map toV))) := by
  show (if (Value.type "tuple" == Value.type "list") = true then some (HO.frz { cls := .type "tuple", data := .seq vs.toArray } (.lst (vs.toArray.toList.map toV))) else some (HO.frz { cls := .type "tuple", data := .seq vs.toArray } (.tup (vs.toArray.toList.map toV)))) = _
  rw [if_neg (by decide)]
section
variable {P : Program} {w : World} {K : PySem.W.Frag} {h : Heap} {A : List Addr}
theorem argH_at {b : Addr} {o : Obj} (hb : b ∈ A) (hk : K.lookup b = none) (e : h.get? b = some o) : argH K h A b = hoOf o := by
  unfold argH
  rw [if_pos hb, hk, if_pos (show (none : Option Obj).isNone = true from rfl), e] <;> rfl
theorem of_argH {b : Addr} {u : HO} (q : argH K h A b = some u) : b ∈ A ∧ K.lookup b = none := by
  unfold argH at q
  by_cases hb : b ∈ A
  · rw [if_pos hb] at q
    cases hk : K.lookup b with
    | none => exact ⟨hb, rfl⟩
    | some o =>
      rw [hk, if_neg (by simp)] at q
      cases q
  · rw [if_neg hb] at q
    cases q
theorem argH_is (ar : ∀ a ∈ A, ArgOb h A a) {b : Addr} {u : HO} (q : argH K h A b = some u) : K.lookup b = none ∧ ∃ vs : List Value, vs.length ≤ sizeLine ∧ (∀ u ∈ vs, OkU A u) ∧
    ((h.get? b = some { cls := .type "list", data := .seq vs.toArray } ∧ u = .frz { cls := .type "list", data := .seq vs.toArray } (.lst (vs.map toV))) ∨
     (h.get? b = some { cls := .type "tuple", data := .seq vs.toArray } ∧ u = .frz { cls := .type "tuple", data := .seq vs.toArray } (.tup (vs.map toV)))) := by
  obtain ⟨hb, hk⟩ := of_argH q
  obtain ⟨vs, h1, h2, h3⟩ := ar b hb
  refine ⟨hk, vs, h1, h2, ?_⟩
  rcases h3 with e | e
  · rw [argH_at hb hk e, hoOf_lst] at q
    exact .inl ⟨e, (Option.some.inj q).symm⟩
  · rw [argH_at hb hk e, hoOf_tup] at q
    exact .inr ⟨e, (Option.some.inj q).symm⟩
theorem argH_only (ar : ∀ a ∈ A, ArgOb h A a) : OnlyF (argH K h A) := fun b => by
  cases q : argH K h A b with
  | none => exact .inl rfl
  | some u =>
    obtain ⟨_, vs, _, _, ⟨_, e⟩ | ⟨_, e⟩⟩ := argH_is ar q
    · exact .inr ⟨_, _, by rw [e]⟩
    · exact .inr ⟨_, _, by rw [e]⟩
theorem argH_ok (ar : ∀ a ∈ A, ArgOb h A a) : HOk P w (argH K h A) h := fun b u q => by
  obtain ⟨_, vs, h1, h2, ⟨e, rfl⟩ | ⟨e, rfl⟩⟩ := argH_is ar q
  · exact ⟨e, by rw [List.length_map]; exact h1, vs, _, vals_toV h2, e⟩
  · exact ⟨e, by rw [List.length_map]; exact h1, vs, vals_toV h2, _, e, rfl, _, rfl⟩
theorem seq_inj {c c' : Value} {vs us : List Value} (e : (some { cls := c, data := .seq vs.toArray } : Option Obj) = some { cls := c', data := .seq us.toArray }) : c = c' ∧ vs = us := by
  have e1 := Option.some.inj e
  have e2 : c = c' := congrArg Obj.cls e1
  have e3 : Data.seq vs.toArray = Data.seq us.toArray := congrArg Obj.data e1
  injection e3 with e4
  refine ⟨e2, ?_⟩
  have e5 := congrArg Array.toList e4
  simpa using e5
theorem argL (KX : K.In h) (ar : ∀ a ∈ A, ArgOb h A a) {a : Addr} {vs : List Value} (ha : a ∈ A) (e : h.get? a = some { cls := .type "list", data := .seq vs.toArray }) : (∀ u ∈ vs, OkU A u) ∧ SqL K (argH K h A) a (vs.map toV) := by
  obtain ⟨us, h1, h2, h3⟩ := ar a ha
  have hu : us = vs := by
    rcases h3 with q | q
    · rw [e] at q
      exact (seq_inj q).2.symm
    · rw [e] at q
      exact absurd (Value.type.inj (seq_inj q).1) (by decide)
  subst hu
  refine ⟨h2, ?_⟩
  cases hk : K.lookup a with
  | none => exact .inl (.inr ⟨_, by rw [argH_at ha hk e, hoOf_lst]⟩)
  | some o =>
    have e2 := KX a o hk
    rw [e] at e2
    obtain rfl := Option.some.inj e2
    exact .inr ⟨_, us.toArray, _, hk, rfl, rfl, rfl, by rw [List.size_toArray]; exact h1, by simpa using vals_toV h2⟩
theorem argT (KX : K.In h) (ar : ∀ a ∈ A, ArgOb h A a) {a : Addr} {vs : List Value} (ha : a ∈ A) (e : h.get? a = some { cls := .type "tuple", data := .seq vs.toArray }) : (∀ u ∈ vs, OkU A u) ∧ SqT K (argH K h A) a (vs.map toV) := by
  obtain ⟨us, h1, h2, h3⟩ := ar a ha
  have hu : us = vs := by
    rcases h3 with q | q
    · rw [e] at q
      exact absurd (Value.type.inj (seq_inj q).1) (by decide)
    · rw [e] at q
      exact (seq_inj q).2.symm
  subst hu
  refine ⟨h2, ?_⟩
  cases hk : K.lookup a with
  | none => exact .inl (.inr ⟨_, by rw [argH_at ha hk e, hoOf_tup]⟩)
  | some o =>
    have e2 := KX a o hk
    rw [e] at e2
    obtain rfl := Option.some.inj e2
    exact .inr ⟨_, us.toArray, _, hk, rfl, rfl, by rw [List.size_toArray]; exact h1, by simpa using vals_toV h2⟩
mutual
theorem dw_one {Pm : Params} (KX : K.In h) (ar : ∀ a ∈ A, ArgOb h A a) : ∀ (d : WData) (v : Value), Well Pm h v d → plW d = true → OkU A v → Dw K (argH K h A) (toV v) d
  | .none, _, x, _, _ => by
    cases x
    exact .non
  | .bool b, _, x, _, _ => by
    cases x
    exact .bl b
  | .int i, _, x, _, _ => by
    cases x
    exact .int i
  | .str s, _, x, _, _ => by
    cases x
    exact .str s
  | .bytes b, _, x, _, _ => by
    cases x
    have z := Dw.byt (K := K) (H := argH K h A) b.toArray
    exact z
  | .list ds, _, x, p, hu => by
    obtain ⟨a, vs, rfl, ho, hall⟩ := well_list x
    obtain ⟨h2, hs⟩ := argL KX ar hu ho
    exact .lst hs (dw_all KX ar ds _ hall p h2)
  | .tuple ds, _, x, p, hu => by
    obtain ⟨a, vs, rfl, ho, hall⟩ := well_tuple x
    obtain ⟨h2, hs⟩ := argT KX ar hu ho
    exact .tup hs (dw_all KX ar ds _ hall p h2)
  | .float _, _, _, p, _ => Bool.noConfusion (show false = true from p)
  | .dict _, _, _, p, _ => Bool.noConfusion (show false = true from p)
  | .bytearray _, _, _, p, _ => Bool.noConfusion (show false = true from p)
  | .set _, _, _, p, _ => Bool.noConfusion (show false = true from p)
  | .frozenset _, _, _, p, _ => Bool.noConfusion (show false = true from p)
  | .obj _ _, _, _, p, _ => Bool.noConfusion (show false = true from p)
theorem dw_all {Pm : Params} (KX : K.In h) (ar : ∀ a ∈ A, ArgOb h A a) : ∀ (ds : List WData) (vs : List Value), WellAll Pm h vs ds → plWs ds = true → (∀ u ∈ vs, OkU A u) → DwAll K (argH K h A) (vs.map toV) ds
  | [], _, x, _, _ => by
    cases x
    exact .nil
  | d :: ds, _, x, p, hu => by
    obtain ⟨v, vs, rfl, x1, x2⟩ := well_cons x
    have q : plW d = true ∧ plWs ds = true := Bool.and_eq_true_iff.mp p
    exact .cons (dw_one KX ar d v x1 q.1 (hu _ (List.mem_cons_self ..))) (dw_all KX ar ds vs x2 q.2 fun u m => hu u (List.mem_cons_of_mem _ m))
end
end
theorem spec_call {P : Program} {w : World} {K : PySem.W.Frag} {mg mb : Str → Option Value} {CX : CXT} {k : Nat} {fa : Addr} {fd : FuncData} {ps : List Str} {sp : Sp} {s₁ : Shared} {vals : List Value} {ds : List WData} {R : PySem.W.WRecords} {cl : Str → Option Addr} {d0 : WData}
    (KX : K.In s₁.heap) (hns : s₁.heap.Ns mainGlobals mg) (hb : s₁.heap.Ns builtinsNs mb) (hbb : ∀ x : Str, x ≠ "__name__" → mb x = bootBuiltins x) (hlim : s₁.heap.NoLimit) (hg : s₁.gens = #[])
    (hwl : WellAll w.params s₁.heap vals ds) (hpl : plWs ds = true) (hwt : ∀ d ∈ ds, d.weight ≤ 1048576) (hr : Room k callerA)
    (F : ∀ base : Heap, K.In base → base.Ns mainGlobals mg → FnOk P w K mg base CX k fa fd ps sp) (hbind : ∀ (s : Shared) (us : List Value), us.length = ps.length → BindsTo s fd ⟨us, []⟩ (ps.zip us)) (hlen : ds.length = ps.length)
    (hsp : ∀ (H : Hp) (xs : List V), OnlyF H → DwAll K H xs ds → sp xs H (fun v H' => Dw K H' v d0) fun _ _ _ => False)
    (hCX : ∀ H e s', CX [] H s₁ (fun _ _ _ => False) e s' → False) :
    codeAny (model P w) callerA (.call (.ref fa) ⟨vals, []⟩) (fun r s' => ∃ u as, r = .ok (.ret u) ∧ ReadsW R cl s'.heap u d0 as ∧ OldK s₁.heap s'.heap ∧ s'.os = s₁.os ∧ AllBare s'.gens) s₁ := by
  obtain ⟨A, ho, ar⟩ := area_all ds vals hwl hpl hwt
  have hO : OnlyF (argH K s₁.heap A) := argH_only ar
  have hok : HOk P w (argH K s₁.heap A) s₁.heap := argH_ok ar
  have hS := dw_all KX ar ds vals hwl hpl ho
  have hV := vals_toV ho
  have hK : ∀ b u, argH K s₁.heap A b = some u → K.lookup b = none := fun b u q => (argH_is ar q).1
  have noA : ∀ {b : Addr} {o : Obj} {es : Array DictEntry} {ep : Nat}, s₁.heap.get? b = some o → o.data = .dict es ep → argH K s₁.heap A b = none := fun {b o es ep} e d => by
    cases q : argH K s₁.heap A b with
    | none => rfl
    | some u =>
      obtain ⟨_, vs, _, _, ⟨e2, _⟩ | ⟨e2, _⟩⟩ := argH_is ar q
      · rw [e2] at e
        cases e
        have d' : Data.seq vs.toArray _ = Data.dict es ep := d
        cases d'
      · rw [e2] at e
        cases e
        have d' : Data.seq vs.toArray _ = Data.dict es ep := d
        cases d'
  generalize argH K s₁.heap A = H at hO hok hS hK noA
  have base_of : ∀ {b : Addr} {o : Obj}, s₁.heap.get? b = some o → H b = none → (hidT s₁.heap H).get? b = some o := fun e n => hidT_get e n
  have nsK : ∀ {b : Addr} {m : Str → Option Value}, s₁.heap.Ns b m → (hidT s₁.heap H).Ns b m := fun {b m} ⟨o, es, ep, e, d, r⟩ => ⟨o, es, ep, base_of e (noA e d), d, r⟩
  have nK : ∀ b o, K.lookup b = some o → H b = none := fun b o e => by
    cases q : H b with
    | none => rfl
    | some u =>
      rw [hK b u q] at e
      cases e
  have hKb : K.In (hidT s₁.heap H) := fun b o e => base_of (KX b o e) (nK b o e)
  have hM : Mod K mg (hidT s₁.heap H) := ⟨hKb, nsK hns, ⟨mb, nsK hb, hbb⟩, let ⟨mc, h1, h2⟩ := hlim; ⟨mc, nsK h1, h2⟩⟩
  have e0 : Env0 P w K mg (hidT s₁.heap H) callerA [] s₁ H := ⟨rfl, hM, fun b o e => of_hidT e, Nat.le_of_eq (hidT_size _ _), trivial, fun b hb => absurd (show b ∈ ([] : List Addr) from hb) (by simp), hok, .of_eq hg⟩
  have hl : vals.length = ps.length := by rw [wellAll_len hwl]; exact hlen
  refine codeAny_mono ((F _ hKb (nsK hns)).run callerA [] s₁ H ⟨vals, []⟩ vals (vals.map toV) _ _ hr e0 (hbind s₁ vals hl) hV (hsp H _ hO hS)) fun r s' x => ?_
  cases r with
  | error e => exact (hCX H e s' x).elim
  | ok fl =>
    cases fl with
    | next => exact False.elim x
    | brk => exact False.elim x
    | cont => exact False.elim x
    | ret u =>
      obtain ⟨v, H', os, bare, un, hok', r', q⟩ := x
      have kept : ∀ b o, s₁.heap.get? b = some o → s'.heap.get? b = some o := fun b o e => by
        cases q2 : H b with
        | none => exact un.keep b o e q2 (by intro z; exact absurd (show b ∈ ([] : List Addr) from z) (by simp)) (by simp)
        | some u2 =>
          rcases hO b with z | ⟨ob, u3, z⟩
          · rw [q2] at z
            cases z
          · have z2 := un.frzs b ob _ z
            obtain ⟨e1, _⟩ := hok b _ z
            obtain ⟨e2, _⟩ := hok' b _ z2
            rw [e] at e1
            cases e1
            exact e2
      have KX' : K.In s'.heap := fun b o e => kept b o (KX b o e)
      obtain ⟨as, hrd⟩ := Dw.reads (R := R) (cl := cl) hok' KX' d0 v u q r'
      exact ⟨u, as, rfl, hrd, OldK.of_keep kept, os, bare⟩
theorem layable_weight {ds : List WData} (h : WData.layableAll ds = true) : ∀ d ∈ ds, d.weight ≤ 1048576 := fun d hd =>
  (PySem.W.layableW_iff.mp (List.all_eq_true.mp h d hd)).2.2
theorem encAll_len : ∀ (cs : List Codec) (a : Codec.denoteAll cs), (Codec.encAll cs a).length = cs.length
  | [], _ => rfl
  | c :: cs, a => by
    show (Codec.encAll cs a.2).length + 1 = cs.length + 1
    rw [encAll_len cs a.2]
theorem walk_spec {r : OpenSpec} {k : Nat} {q : Program} {loose : List Str} {XP : (Str → Option Value) → Heap → Prop} {YP : World → Heap → Prop} {d : DefRec} {K : Params → PySem.W.Frag} {CX : World → CXT} {ps : List Str} {sp : World → Sp}
    (hwell : r.wellSaid = true) (hdf : d.params.defaults = []) (hlen : r.args.length = ps.length) (hr : Room k callerA)
    (hY : ∀ (w : World) (h : Heap), YP w h → (K w.params).In h)
    (F : ∀ (w : World) (mg : Str → Option Value) (fa : Addr) (h : Heap), YP w h → (K w.params).In h → h.Ns mainGlobals mg → mg d.name = some (.ref fa) →
      ∃ fd : FuncData, (∀ (s : Shared) (us : List Value), us.length = ps.length → BindsTo s fd ⟨us, []⟩ (ps.zip us)) ∧
        ∀ base : Heap, (K w.params).In base → base.Ns mainGlobals mg → FnOk r.prog w (K w.params) mg base (CX w) k fa fd ps (sp w))
    (hsp : ∀ (w : World) (H : Hp) (xs : List V) (a : Codec.denoteAll r.args), OnlyF H → Codec.withinAll r.args a = true → Codec.app r.args r.asked a = true → DwAll (K w.params) H xs (Codec.encAll r.args a) →
      sp w xs H (fun v H' => Dw (K w.params) H' v (r.ret.enc (Codec.app r.args r.f a))) fun _ _ _ => False)
    (hCX : ∀ (w : World) (H : Hp) (s : Shared) (e : Value) (s' : Shared), CX w [] H s (fun _ _ _ => False) e s' → False) :
    PySem.W.WalkOS q loose XP YP r d [] (fun f vs => PySem.call f vs) := by
  intro w s_0 s₁ mg mb G Y fa o pm cd doc dV kV ho hd hcd hD hmg hg args vals as hpre hlay hrd hwl hlo
  obtain ⟨a, e1, e2⟩ := PySem.W.os_pre_some hpre
  obtain ⟨e3, hwi⟩ := Codec.encAll_of_decAll r.args args a e1
  subst e3
  have KX := hY w _ Y
  obtain ⟨fd, hb, hF⟩ := F w mg fa _ Y KX G.T.g hmg
  refine PySem.W.enter_call (codeAny_mono (spec_call (R := []) (cl := classAt s_0.heap) (d0 := r.ret.enc (Codec.app r.args r.f a)) KX G.T.g G.T.b G.T.builtins G.T.nolimit hg hwl (pl_encAll _ _) (layable_weight hlay) hr hF hb (by rw [encAll_len]; exact hlen)
    (fun H xs hO hS => hsp w H xs a hO hwi e2 hS) fun H e s' => hCX w H s₁ e s') fun r' s' hq => ?_)
  obtain ⟨u, as', rfl, h1, h2, h3, h4⟩ := hq
  exact ⟨.inl ⟨u, _, as', rfl, fun _ => rfl, h1, (OpenSpec.post_iff hwell hwi _ _).mpr rfl, fun z => Bool.noConfusion (show false = true from z)⟩, h2, h3, h4⟩
theorem walk_specK {r : OpenSpec} {k : Nat} {q : Program} {loose : List Str} {XP : (Str → Option Value) → Heap → Prop} {YP : World → Heap → Prop} {d : DefRec} {K : Params → PySem.W.Frag} {CX : CXT} {ps : List Str} {sp : PySem.W.Frag → Sp}
    (hwell : r.wellSaid = true) (hdf : d.params.defaults = []) (hlen : r.args.length = ps.length) (hr : Room k callerA)
    (hY : ∀ (w : World) (h : Heap), YP w h → (K w.params).In h)
    (F : ∀ (w : World) (mg : Str → Option Value) (fa : Addr) (h : Heap), YP w h → (K w.params).In h → h.Ns mainGlobals mg → mg d.name = some (.ref fa) →
      ∃ fd : FuncData, (∀ (s : Shared) (us : List Value), us.length = ps.length → BindsTo s fd ⟨us, []⟩ (ps.zip us)) ∧
        ∀ base : Heap, (K w.params).In base → base.Ns mainGlobals mg → FnOk r.prog w (K w.params) mg base CX k fa fd ps (sp (K w.params)))
    (hsp : ∀ (K : PySem.W.Frag) (H : Hp) (xs : List V) (a : Codec.denoteAll r.args), OnlyF H → Codec.withinAll r.args a = true → Codec.app r.args r.asked a = true → DwAll K H xs (Codec.encAll r.args a) →
      sp K xs H (fun v H' => Dw K H' v (r.ret.enc (Codec.app r.args r.f a))) fun _ _ _ => False)
    (hCX : ∀ (H : Hp) (s : Shared) (e : Value) (s' : Shared), CX [] H s (fun _ _ _ => False) e s' → False) :
    PySem.W.WalkOS q loose XP YP r d [] (fun f vs => PySem.call f vs) :=
  walk_spec (K := K) (CX := fun _ => CX) (sp := fun w => sp (K w.params)) hwell hdf hlen hr hY F (fun w H xs a h1 h2 h3 h4 => hsp (K w.params) H xs a h1 h2 h3 h4) fun _ H s e s' => hCX H s e s'
end L2

set_option Elab.async false
set_option linter.all false
set_option maxRecDepth 100000
set_option maxHeartbeats 2000000
namespace L2
open PySem PySem.Spec PyProof.Rows
theorem lc_zip {K : PySem.W.Frag} {a b : Addr} {xs ys : List V} {g : TG} {tt : TT} {te : TE} {vs : List Nat} {σ : St} {H1 : Hp} {D : Addr} {Qd : Hp → Prop} (Pv : Nat → Hp → Prop) (h0 : Pv 0 (upd H1 D (.lst [])))
    (hl : ∀ i H, i ≤ min xs.length ys.length → Pv i H → SqL K H a xs ∧ SqL K H b ys)
    (hs : ∀ i x y H T, xs[i]? = some x → ys[i]? = some y → Pv i H → H T = none → g (.ref T) (wipe σ vs) (upd H T (.tup [x, y])) fun σ2 H2 => wipe σ2 vs = wipe σ vs ∧ tt σ2 H2 fun c H3 =>
      if c = true then te σ2 H3 fun z H4 => ∃ acc, H4 D = some (.lst acc) ∧ acc.length < sizeLine ∧ Pv (i + 1) (upd H4 D (.lst (acc ++ [z]))) else Pv (i + 1) H3) (hd : ∀ H, Pv (min xs.length ys.length) H → Qd H) :
    ∃ W : Nat → Nat → Hp → Prop, (∃ m, W 0 m (upd H1 D (.lst []))) ∧ ∀ i m H, W i m H →
      ((Itz K a b).stop i H ∧ Qd H) ∨ ((Itz K a b).go i H ∧ ∃ Nx : Hp → Prop, (∀ H', Nx H' → ∃ m', m' < m ∧ W (i + 1) m' H') ∧ ∀ x H', (Itz K a b).yld i H x H' → g x (wipe σ vs) H' fun σ2 H2 => wipe σ2 vs = wipe σ vs ∧ tt σ2 H2 fun c H3 =>
        if c = true then te σ2 H3 fun z H4 => ∃ acc, H4 D = some (.lst acc) ∧ acc.length < sizeLine ∧ Nx (upd H4 D (.lst (acc ++ [z]))) else Nx H3) := by
  obtain ⟨n, hn⟩ : ∃ n, n = min xs.length ys.length := ⟨_, rfl⟩
  rw [← hn] at hl hd
  refine ⟨fun i m H => m = n - i ∧ i ≤ n ∧ Pv i H, ⟨n, by simp, Nat.zero_le _, h0⟩, ?_⟩
  rintro i m H ⟨rfl, hi, p⟩
  obtain ⟨q, q2⟩ := hl i H hi p
  by_cases hlt : i < n
  · have h1 : i < xs.length := by omega
    have h2 : i < ys.length := by omega
    refine .inr ⟨⟨xs, ys, xs[i], ys[i], q, q2, by simp [h1], by simp [h2]⟩, Pv (i + 1), fun H' p' => ⟨n - (i + 1), by omega, rfl, hlt, p'⟩, fun x H' y => ?_⟩
    obtain ⟨T, u, v, e, hT, e2, y1, y2⟩ := y
    subst e e2
    exact hs i u v _ T (y1 xs q) (y2 ys q2) p hT
  · have e : i = n := by omega
    subst e
    exact .inl ⟨⟨xs, ys, q, q2, by omega⟩, hd H p⟩
section
variable {X : Cx}
def rCountI (K : PySem.W.Frag) : V → List V → Hp → VK → Prop := fun x xs H Q => ∃ (a : Addr) (ns : List Int) (k : Int), x = V.ref a ∧ xs = [V.int k] ∧ SqL K H a (ns.map V.int) ∧ Q (.int ((ns.count k : Nat) : Int)) H
theorem mt_countI : MtR X "list.count" (rCountI X.K) := by
  intro pins s σ H x xs v us Q I rx rxs h
  obtain ⟨a, ns, k, rfl, rfl, hq, q⟩ := h
  cases rx
  obtain ⟨its, rv, hl, _⟩ := I.list hq
  cases rxs with
  | cons r rr =>
    cases rr
    obtain ⟨t, rfl⟩ := r
    exact PyProof.Rows.count_list_ints hl.isList rv.ints ⟨.int _, H, I.tok _, ⟨_, rfl⟩, q⟩
end
end L2

set_option Elab.async false
set_option linter.all false
set_option maxRecDepth 100000
set_option maxHeartbeats 2000000
namespace XX
open PySem PySem.Spec PyProof.Rows
open Builtin Builtin.ObjectAttr
section
variable {prog : Program} {w : World} {A : Around} {E : Value → Shared → Prop} {h : Heap} {g : Array GenState} {d : Drawn} {t : Nat} {os : OsState}
variable {nm q : Str} {C N x : Addr} {bs bm : List Value} {sn : List Str} {sub : List Value} {ab : Bool} {col : Option Bool} {dd : Option Addr} {k0 k1 k2 k3 k5 : Option Value} {B newId sa owner : String}
  {mN : Str → Option Value} {name : Str} {v : Value} {vs : Array Value}

/-- the first attribute of an exception that has no dict yet: the dict is new -/
theorem put_entry {tk : Tok} {Q : Fin → Shared → Prop} (SF : StoreFacts B bm sa owner)
    (hC : h.get? C = some (excClassObj nm q C N bs bm true sn sub ab col dd k0 k1 k2 k3 k5 newId)) (hn : h.Ns N mN) (hna : mN name = none)
    (hB : typeLookup (.type B) name = pure none) (hx : h.get? x = some ⟨.ref C, none, .fields vs, #[]⟩)
    (hq : ∀ h' tk' dx, h.objs.size ≤ dx → h'.Ns1 dx (fun y => if y = name then some v else none) → h'.get? x = some ⟨.ref C, some dx, .fields vs, #[]⟩ →
      (∀ b o, b ≠ x → h.get? b = some o → h'.get? b = some o) → Q (.done (.ret .none)) ⟨h', g, d, tk', os⟩) :
    wpAny (model prog w) A (Builtin.«object.__setattr__» ⟨[.ref x, .str name tk, v], []⟩) Q E ⟨h, g, d, t, os⟩ := by
  have pass := SF.passes (.ref x)
  have hx0 := hx
  obtain ⟨oo, eo⟩ : ∃ oo : Obj, oo = ⟨.ref C, none, .fields vs, #[]⟩ := ⟨_, rfl⟩
  have hc : oo.cls = .ref C := by rw [eo]
  have hdn : oo.dict = none := by rw [eo]
  rw [← eo] at hx
  unfold Builtin.«object.__setattr__»
  repeat (first
    | rw [refuse_eq]
    | (rw [refuseLoop_ref, pass])
    | (with_reducible refine wpAny_loadPart_at hx ?_; rw [hc])
    | with_reducible refine wpAny_mroOf_exc hC ?_
    | (with_reducible refine wpAny_typeLookup_exc hC hn SF.mro hB ?_; rw [hna])
    | wp_step)
  rw [hdn, if_neg (by simp [typeHasDict])]
  subst eo
  split
  · rename_i z
    cases z
  split
  · rename_i z
    cases z
  · have hx1 : (h.push { cls := .type "dict", data := .dict #[] }).get? x = some ⟨.ref C, none, .fields vs, #[]⟩ := Heap.get?_push_of_some _ hx
    have nx : x ≠ h.objs.size := Nat.ne_of_lt (Heap.lt_size hx)
    refine wpAny_bind (wpAny_alloc' ?_)
    refine wpAny_bind (wpAny_update' hx1 ?_)
    refine wpAny_pure ?_
    have gd : ((h.push { cls := .type "dict", data := .dict #[] }).update x fun o => { cls := o.cls, dict := some h.objs.size, data := o.data, slots := o.slots }).get? h.objs.size = some { cls := .type "dict", data := .dict #[] } :=
      (Heap.get?_update_ne _ _ _ _ nx.symm).trans (Heap.get?_push_at rfl rfl)
    have nd : ((h.push { cls := .type "dict", data := .dict #[] }).update x fun o => { cls := o.cls, dict := some h.objs.size, data := o.data, slots := o.slots }).Ns h.objs.size (fun _ => none) :=
      ⟨_, #[], _, gd, rfl, fun e he => absurd he (by simp), fun _ => rfl⟩
    show wpAny _ _ (storeInDict h.objs.size (.str name tk) name v) _ _ _
    unfold storeInDict newKeyGuard
    refine wpAny_bind (wpAny_pure ?_)
    refine wpAny_bind (wpAny_nsSet1 (Heap.Ns1.of_empty nd) fun h1 n1 s1 => ?_)
    obtain ⟨oD, esD, epD, hoD, hdD, hcD⟩ := n1.count (Within.cons name v Within.nil)
    refine wpAny_bind (wpAny_lookBehind hoD (by rw [hdD]; exact pastItsLine_dict (Nat.le_trans hcD (by rw [List.length_cons, List.length_nil, sizeLine_eq]; omega))) ?_)
    wp_walk
    refine hq h1 _ h.objs.size (Nat.le_refl _) n1 ((s1.2 x nx).trans (Heap.get?_update_self _ hx1 rfl)) fun b ob bx hb => ?_
    exact (s1.2 b (Nat.ne_of_lt (Heap.lt_size hb))).trans ((Heap.get?_update_ne _ _ _ _ bx).trans (Heap.get?_push_of_some _ hb))

theorem put_attr {Q : Unit → Shared → Prop} (SF : StoreFacts B bm sa owner)
    (hC : h.get? C = some (excClassObj nm q C N bs bm true sn sub ab col dd k0 k1 k2 k3 k5 newId)) (hn : h.Ns N mN) (hns : mN "__setattr__" = none) (hna : mN name = none)
    (hB : typeLookup (.type B) name = pure none) (hx : h.get? x = some ⟨.ref C, none, .fields vs, #[]⟩)
    (hq : ∀ h' tk' dx, h.objs.size ≤ dx → h'.Ns1 dx (fun y => if y = name then some v else none) → h'.get? x = some ⟨.ref C, some dx, .fields vs, #[]⟩ →
      (∀ b o, b ≠ x → h.get? b = some o → h'.get? b = some o) → Q () ⟨h', g, d, tk', os⟩) :
    wpAny (model prog w) A (setAttr (.ref x) name v) Q E ⟨h, g, d, t, os⟩ := by
  have f3 := SF.slot.bind (.ref x)
  unfold setAttr callSpecial? specialOf
  repeat (any_goals (first | assumption | with_reducible refine wpAny_loadPart_at hx ?_ | (with_reducible refine wpAny_typeLookup_exc hC hn SF.mro SF.slot.lookup ?_; rw [hns]) | wp_step))
  refine codeAny_call_builtin SF.slot.plain SF.entry (wpAny_check_sa SF hC hx rfl (put_entry SF hC hn hna hB hx fun h1 tk1 dx1 z1 z2 z3 z4 => ?_))
  repeat (any_goals (first | assumption | wp_step))
  exact hq h1 tk1 dx1 z1 z2 z3 z4

/-- an attribute out of an exception's own dict -/
theorem look_entry {tk : Tok} {dx : Addr} {mA : Str → Option Value} {o : Obj} {Q : Fin → Shared → Prop} (FB : ExcAttrBase B bm)
    (hC : h.get? C = some (excClassObj nm q C N bs bm true sn sub ab col dd k0 k1 k2 k3 k5 newId)) (hn : h.Ns N mN) (hna : mN name = none)
    (hB : typeLookup (.type B) name = pure none) (hx : h.get? x = some o) (hc : o.cls = .ref C) (hdt : o.data = .fields vs) (hdx : o.dict = some dx) (hA : h.Ns1 dx mA) (hv : mA name = some v)
    (hq : Q (.done (.ret v)) ⟨h, g, d, t, os⟩) :
    wpAny (model prog w) A (Builtin.«object.__getattribute__» ⟨[.ref x, .str name tk], []⟩) Q E ⟨h, g, d, t, os⟩ := by
  unfold Builtin.«object.__getattribute__»
  repeat (first | (with_reducible refine wpAny_loadPart_at hx ?_; rw [hc]) | (with_reducible refine wpAny_typeLookup_exc hC hn FB.mro hB ?_; rw [hna]) | wp_step)
  split
  · rename_i c z
    rw [hdt] at z
    cases z
  unfold instanceDict
  repeat (first | (with_reducible refine wpAny_loadPart_at hx ?_; rw [hc]) | with_reducible refine wpAny_loadPart_at hC ?_ | wp_step)
  rw [hdx]
  repeat (first | (with_reducible refine wpAny_nsGet hA.ns ?_; rw [hv]) | wp_step)
  exact hq

theorem look_check {M : Model} {nameV : Value} {o : Obj} {Q : Unit → Shared → Prop} (FB : ExcAttrBase B bm) (hC : h.get? C = some (excClassObj nm q C N bs bm true sn sub ab col dd k0 k1 k2 k3 k5 newId))
    (hx : h.get? x = some o) (hc : o.cls = .ref C) (hq : Q () ⟨h, g, d, t, os⟩) : wpAny M A (checkBuiltinCall "BaseException.__getattribute__" ⟨[.ref x, nameV], []⟩) Q E ⟨h, g, d, t, os⟩ := by
  have kk : builtinKind "BaseException.__getattribute__" = some .slot := by decide +kernel
  have ks : splitId "BaseException.__getattribute__" = some ("BaseException", "__getattribute__") := by decide +kernel
  have cB : (Value.ref C :: bm).contains (.type "BaseException") = true := by rw [List.contains_cons, FB.hasBase, Bool.or_true]
  have ha := F.args_bexc_ga (.ref x) nameV
  simp only [checkBuiltinCall, kk, ks]
  refine wpAny_bind ?_
  · unfold isInstance
    repeat (first | (with_reducible refine wpAny_loadPart_at hx ?_; rw [hc]) | (with_reducible refine wpAny_isSubtype_exc hC ?_; rw [cB]) | wp_step)
    exact hq

theorem look_attr {expr : Bool} {dx : Addr} {mA : Str → Option Value} {o : Obj} {Q : Value → Shared → Prop} (FB : ExcAttrBase B bm)
    (hC : h.get? C = some (excClassObj nm q C N bs bm true sn sub ab col dd k0 k1 k2 k3 k5 newId)) (hn : h.Ns N mN) (hng : mN "__getattribute__" = none) (hnh : mN "__getattr__" = none) (hna : mN name = none)
    (hB : typeLookup (.type B) name = pure none) (hx : h.get? x = some o) (hc : o.cls = .ref C) (hdt : o.data = .fields vs) (hdx : o.dict = some dx) (hA : h.Ns1 dx mA) (hv : mA name = some v) (hh : handedOut v = pure v)
    (hq : Q v ⟨h, g, d, t + 1, os⟩) :
    wpAny (model prog w) A (getAttr (.ref x) name expr) Q E ⟨h, g, d, t, os⟩ := by
  have f3 := FB.ga.bind (.ref x)
  have hx0 : (expr && onTheHeap (Value.builtin "BaseException.__getattribute__")) = false := by cases expr <;> rfl
  have hx2 : (Value.builtin "BaseException.__getattribute__" == Value.builtin "object.__getattribute__") = false := by decide +kernel
  have hx1 : (onTheHeap (Value.ref C) && Value.builtin "BaseException.__getattribute__" == Value.builtin "object.__getattribute__") = false := by rw [hx2]; rfl
  unfold getAttr
  repeat (any_goals (first | assumption | (with_reducible refine wpAny_loadPart_at hx ?_; rw [hc]) | (with_reducible refine wpAny_typeLookup_exc hC hn FB.mro FB.ga.lookup ?_; rw [hng]) | (with_reducible refine wpAny_typeLookup_exc hC hn FB.mro FB.noGetattr ?_; rw [hnh]) | wp_step))
  refine codeAny_call_builtin FB.ga.plain F.entry_bexc_ga (look_check FB hC hx hc (look_entry FB hC hn hna hB hx hc hdt hdx hA hv ?_))
  repeat (any_goals (first | assumption | wp_step))
end
end XX

set_option Elab.async false
set_option linter.all false
set_option maxRecDepth 100000
set_option maxHeartbeats 2000000
namespace XX
open PySem PySem.Spec PyProof.Rows
section
variable {M : Model} {A : Around} {E : Value → Shared → Prop} {s : Shared}
/-- the addresses of the frames -/
abbrev fra (l : List Env) : List Addr := l.filterMap (·.frame)
/-- behind a frame's entry in the traceback: what stands at p, at the new entry T, elsewhere -/
structure Past (l : List Env) (p : Addr) (o : Obj) (vs : Array Value) (skip : Addr → Prop) (h h' : Heap) (T : Addr) : Prop where
  new : h.objs.size ≤ T
  exc : h'.get? p = some { o with data := .fields (vs.setIfInBounds 1 (.ref T)) }
  ent : ∃ oT ts, h'.get? T = some oT ∧ oT.data = .fields ts ∧ ts[3]? = some .none
  keep : ∀ b ob, h.get? b = some ob → b ∉ fra l → b ≠ p → ¬ skip b → h'.get? b = some ob
  slot : ∀ b ob, h.get? b = some ob → b ∈ fra l → ∃ sl, h'.get? b = some { ob with slots := sl }
  there : ∀ b ob, h.get? b = some ob → ∃ ob', h'.get? b = some ob'

theorem map_fields {o : Obj} {vs : Array Value} (hd : o.data = .fields vs) (f : Array Value → Array Value) : Obj.mapFields f o = { o with data := .fields (f vs) } := by
  obtain ⟨c, d, dt, sl⟩ := o
  have e : dt = .fields vs := hd
  subst e
  rfl

theorem entry_new {base : Heap} {env : Env} {outer : List Env} {L p : Addr} {o : Obj} {vs : Array Value} {head : Value} {had : Bool} {Q : Unit → Shared → Prop}
    (hfr : A.frames = some (env :: outer)) (hl : s.heap.FunFrames base (env :: outer)) (hf : env.frame = some L)
    (hp : s.heap.get? p = some o) (hd : o.data = .fields vs) (hsz : 1 < vs.size)
    (h : ∀ h' T, Past (env :: outer) p o vs (fun _ => False) s.heap h' T → Q () { s with heap := h' }) :
    wpAny M A (do
      let a ← frameOf env
      let pl ← entryPlaceOf L had
      let b ← EntryCells.newEntry head a .none (rawInt L) .none pl
      setField (.ref p) 1 b) (fun _ s' => wpAny M A (setFlight (.ref p) none) Q E s') E s := by
  have np : p ∉ fra (env :: outer) := fun hm => by
    obtain ⟨_, o2, ho2, hnf⟩ := hl.mem hm
    rw [hp] at ho2
    injection ho2 with ho2
    subst ho2
    exact hnf vs hd
  refine wpAny_bind (wpAny_frameOf_fun hfr hl hf fun h1 s1 => ?_)
  refine wpAny_bind (wpAny_entryPlaceOf fun pl hpl => ?_)
  unfold EntryCells.newEntry newFields
  refine wpAny_bind (wpAny_newObj_type ?_ (hpl.sizeOk5 _ _ _ _ _))
  generalize eT : ([head, .ref L, .none, rawInt L, .none] ++ (if pl.isEmpty then List.replicate 6 Value.none else pl)).toArray = ts
  have ht3 : 3 < ts.size := by
    rw [← eT]
    simp only [List.size_toArray, List.length_append, List.length_cons, List.length_nil]
    omega
  have hp1 : h1.get? p = some o := (s1.2.1 p np).trans hp
  have hp2 := Heap.get?_push_of_some (h := h1) { cls := .type "traceback", dict := none, data := .fields ts } hp1
  refine wpAny_setField hp2 hd hsz ?_
  have nTp : h1.objs.size ≠ p := Nat.ne_of_gt (Heap.lt_size hp1)
  have hd3 := Obj.data_mapFields hd (·.setIfInBounds 1 (Value.ref h1.objs.size))
  have hp3 := Heap.get?_update_self (Obj.mapFields (·.setIfInBounds 1 (Value.ref h1.objs.size))) hp2 (Obj.isFreed_of_fields hd3)
  have hT3 := (Heap.get?_update_other (h1.push { cls := .type "traceback", dict := none, data := .fields ts }) (Obj.mapFields (·.setIfInBounds 1 (Value.ref h1.objs.size))) (Ne.symm nTp)).trans (Heap.get?_push_size h1 rfl)
  unfold setFlight
  refine wpAny_bind (wpAny_field hp3 hd3 (x := .ref h1.objs.size) (by simp [hsz]) ?_)
  rw [if_pos (show (Value.ref h1.objs.size != Value.none) = true from by simp)]
  refine wpAny_setField hT3 rfl ht3 (h _ h1.objs.size ?_)
  have low : ∀ b ob, h1.get? b = some ob → b ≠ p →
      (((h1.push { cls := .type "traceback", dict := none, data := .fields ts }).update p (Obj.mapFields (·.setIfInBounds 1 (Value.ref h1.objs.size)))).update h1.objs.size
        (Obj.mapFields (·.setIfInBounds 3 ((none : Option Addr).elim Value.none fun f => rawInt f)))).get? b = some ob := fun b ob hb bp => by
    rw [Heap.get?_update_other _ _ (Nat.ne_of_gt (Heap.lt_size hb)), Heap.get?_update_other _ _ (Ne.symm bp)]
    exact Heap.get?_push_of_some _ hb
  have atp : (((h1.push { cls := .type "traceback", dict := none, data := .fields ts }).update p (Obj.mapFields (·.setIfInBounds 1 (Value.ref h1.objs.size)))).update h1.objs.size
        (Obj.mapFields (·.setIfInBounds 3 ((none : Option Addr).elim Value.none fun f => rawInt f)))).get? p = some { o with data := .fields (vs.setIfInBounds 1 (.ref h1.objs.size)) } := by
    rw [Heap.get?_update_other _ _ nTp, hp3, map_fields hd]
  refine ⟨Nat.le_of_eq s1.1.symm, atp, ⟨_, _, Heap.get?_update_self _ hT3 (Obj.isFreed_of_fields (Obj.data_mapFields rfl _)), Obj.data_mapFields rfl _, ?_⟩, fun b ob hb nb bp _ => low b ob ((s1.2.1 b nb).trans hb) bp, fun b ob hb nb => ?_, fun b ob hb => ?_⟩
  · rw [Array.getElem?_setIfInBounds_self]
    simp [ht3]
  · obtain ⟨sl, e⟩ := s1.2.2 b ob hb
    exact ⟨sl, low b _ e fun z => np (z ▸ nb)⟩
  · by_cases bp : b = p
    · exact ⟨_, by rw [bp]; exact atp⟩
    · obtain ⟨sl, e⟩ := s1.2.2 b ob hb
      exact ⟨_, low b _ e bp⟩

/-- the head of the traceback: none yet, or an entry that is not in flight -/
def Head (h : Heap) (p : Addr) (vs : Array Value) : Prop :=
  vs[1]? = some .none ∨ ∃ T oT ts, vs[1]? = some (.ref T) ∧ T ≠ p ∧ h.get? T = some oT ∧ oT.data = .fields ts ∧ ts[3]? = some .none

theorem note_any {base : Heap} {env : Env} {outer : List Env} {L p : Addr} {o : Obj} {vs : Array Value} {Q : Unit → Shared → Prop}
    (hfr : A.frames = some (env :: outer)) (hl : s.heap.FunFrames base (env :: outer)) (hf : env.frame = some L)
    (hp : s.heap.get? p = some o) (hd : o.data = .fields vs) (hh : Head s.heap p vs)
    (h : ∀ h' T, Past (env :: outer) p o vs (fun b => vs[1]? = some (.ref b)) s.heap h' T → Q () { s with heap := h' }) :
    wpAny M A (noteFrame (.ref p) env) (fun _ s' => wpAny M A (setFlight (.ref p) none) Q E s') E s := by
  unfold noteFrame
  simp only [hf]
  rcases hh with h1 | ⟨T0, oT, ts, h1, nTp, hT, hdT, h3⟩
  · have hsz : 1 < vs.size := (Array.getElem?_eq_some_iff.mp h1).1
    refine wpAny_bind (wpAny_field hp hd h1 ?_)
    rw [if_neg (by decide)]
    exact entry_new hfr hl hf hp hd hsz fun h' T q => h h' T ⟨q.new, q.exc, q.ent, fun b ob e1 e2 e3 _ => q.keep b ob e1 e2 e3 (fun z => z), q.slot, q.there⟩
  · have hsz : 1 < vs.size := (Array.getElem?_eq_some_iff.mp h1).1
    refine wpAny_bind (wpAny_field hp hd h1 ?_)
    rw [if_pos (show (Value.ref T0 != Value.none) = true from by simp)]
    refine wpAny_bind (wpAny_field hT hdT h3 ?_)
    rw [if_neg (show ¬ ((Value.none == rawInt L) = true) from by simp [rawInt])]
    refine wpAny_bind (wpAny_setField hT hdT (Array.getElem?_eq_some_iff.mp h3).1 ?_)
    have other : ∀ b, b ≠ T0 → (s.heap.update T0 (Obj.mapFields (·.setIfInBounds 3 Value.none))).get? b = s.heap.get? b := fun b hb => Heap.get?_update_other _ _ (Ne.symm hb)
    have noRec : ∀ b ob, s.heap.get? b = some ob → (∀ us, ob.data ≠ .fields us) → b ≠ T0 := fun b ob hb hn z => by
      rw [z, hT] at hb
      injection hb with hb
      subst hb
      exact hn ts hdT
    have nofr : ∀ b, b ∈ fra (env :: outer) → b ≠ T0 := fun b hb => by
      obtain ⟨_, ob, ho, hn⟩ := hl.mem hb
      exact noRec b ob ho hn
    refine entry_new hfr (hl.of_keeps fun b ob hb hn => ⟨ob, (other b (noRec b ob hb hn)).trans hb, rfl⟩) hf ((other p (Ne.symm nTp)).trans hp) hd hsz fun h' T q => h h' T ?_
    refine ⟨by rw [← Heap.size_after_update s.heap T0 (Obj.mapFields (·.setIfInBounds 3 Value.none))]; exact q.new, q.exc, q.ent, fun b ob e1 e2 e3 e4 => ?_, fun b ob e1 e2 => ?_, fun b ob e1 => ?_⟩
    · refine q.keep b ob ((other b fun z => e4 ?_).trans e1) e2 e3 fun z => z
      rw [z]; exact h1
    · exact q.slot b ob ((other b (nofr b e2)).trans e1) e2
    · by_cases hb : b = T0
      · subst hb
        exact q.there b _ (Heap.get?_update_self _ hT (Obj.isFreed_of_fields (Obj.data_mapFields hdT _)))
      · exact q.there b ob ((other b hb).trans e1)

theorem leave_any {base : Heap} {env : Env} {outer : List Env} {L p : Addr} {o : Obj} {vs : Array Value} {Q : Unit → Shared → Prop}
    (hfr : A.frames = some (env :: outer)) (hl : s.heap.FunFrames base (env :: outer)) (hf : env.frame = some L)
    (hp : s.heap.get? p = some o) (hd : o.data = .fields vs) (hh : Head s.heap p vs)
    (h : ∀ h' T, Past (env :: outer) p o vs (fun b => vs[1]? = some (.ref b)) s.heap h' T → Q () { s with heap := h' }) : wpAny M A (leaving env (.ref p)) Q E s := by
  unfold leaving
  exact wpAny_bind (note_any hfr hl hf hp hd hh h)

/-- setFlight of an exception that is not in flight -/
theorem flight_none {p : Addr} {o : Obj} {vs : Array Value} {Q : Unit → Shared → Prop} (hp : s.heap.get? p = some o) (hd : o.data = .fields vs) (hh : Head s.heap p vs)
    (h : ∀ h', h'.objs.size = s.heap.objs.size → (∀ b ob, s.heap.get? b = some ob → ¬ vs[1]? = some (.ref b) → h'.get? b = some ob) →
      (∀ b ob, s.heap.get? b = some ob → ∃ ob', h'.get? b = some ob') → Head h' p vs → Q () { s with heap := h' }) : wpAny M A (setFlight (.ref p) none) Q E s := by
  unfold setFlight
  rcases hh with h1 | ⟨T0, oT, ts, h1, nTp, hT, hdT, h3⟩
  · refine wpAny_bind (wpAny_field hp hd h1 ?_)
    rw [if_neg (by decide)]
    exact wpAny_pure (h s.heap rfl (fun b ob e _ => e) (fun b ob e => ⟨ob, e⟩) (.inl h1))
  · refine wpAny_bind (wpAny_field hp hd h1 ?_)
    rw [if_pos (show (Value.ref T0 != Value.none) = true from by simp)]
    have hs3 : 3 < ts.size := (Array.getElem?_eq_some_iff.mp h3).1
    have selfT := Heap.get?_update_self (Obj.mapFields (·.setIfInBounds 3 ((none : Option Addr).elim Value.none fun f => rawInt f))) hT (Obj.isFreed_of_fields (Obj.data_mapFields hdT _))
    refine wpAny_setField hT hdT hs3 (h _ (Heap.size_after_update _ _ _) (fun b ob e n => ?_) (fun b ob e => ?_) (.inr ⟨T0, _, _, h1, nTp, selfT, Obj.data_mapFields hdT _, by rw [Array.getElem?_setIfInBounds_self]; simp [hs3]⟩))
    · rw [Heap.get?_update_other _ _ fun z => n (by rw [← z]; exact h1)]
      exact e
    · by_cases hb : b = T0
      · exact ⟨_, by rw [hb]; exact selfT⟩
      · exact ⟨ob, by rw [Heap.get?_update_other _ _ (Ne.symm hb)]; exact e⟩
end

section
variable {M : Model} {A : Around} {E : Value → Shared → Prop} {env : Env}
variable {nm q : Str} {C N : Addr} {bs bm : List Value} {hdct : Bool} {sn : List Str} {sub : List Value} {ab : Bool} {col : Option Bool} {dd : Option Addr} {k0 k1 k2 k3 k5 : Option Value} {newId : String}

/-- raise of an instance of an own class that has just been made -/
theorem raise_made {s : Shared} {x : Sem Value} {Q : Flow → Shared → Prop} (hbase : bm.contains (.type "BaseException") = true) (hh : A.handled = none)
    (h : wpAny M A x (fun v s1 => ∃ e o vs, v = .ref e ∧ s1.heap.get? C = some (excClassObj nm q C N bs bm hdct sn sub ab col dd k0 k1 k2 k3 k5 newId) ∧
      s1.heap.get? e = some o ∧ o.cls = .ref C ∧ o.data = .fields vs ∧ vs[1]? = some .none ∧ E (.ref e) s1) E s) :
    wpAny M A (raiseStmt env (some x) none) Q E s := by
  have cB : (Value.ref C :: bm).contains (.type "BaseException") = true := by rw [List.contains_cons, hbase, Bool.or_true]
  unfold raiseStmt
  refine wpAny_bind (wpAny_mono h (fun v s1 q1 => ?_) fun _ _ z => z)
  obtain ⟨e, o, vs, rfl, hC, he, hc, hd, h1, hE⟩ := q1
  obtain ⟨hp, g, d, tk, os⟩ := s1
  repeat (first | (with_reducible refine wpAny_loadPart_at he ?_; rw [hc]) | with_reducible refine wpAny_loadPart_at hC ?_ | (with_reducible refine wpAny_isSubtype_exc hC ?_; rw [cB]) | with_reducible refine wpAny_field he hd h1 ?_ | wp_step)
  exact wpAny_raiseNew_none hh hE
end
end XX

set_option Elab.async false
set_option linter.all false
set_option maxRecDepth 100000
set_option maxHeartbeats 2000000
namespace XX
open PySem PySem.Spec PyProof.Rows
/-- an own class right under Exception -/
def bmX : List Value := [.type "Exception", .type "BaseException", .type "object"]
structure XCls (h : Heap) (C : Addr) : Prop where
  ex : ∃ nm q N bs sn sub ab col dd k0 k1 k2 k3 k5, h.get? C = some (excClassObj nm q C N bs bmX true sn sub ab col dd k0 k1 k2 k3 k5 "Exception.__new__")
section
variable {M : Model} {A : Around} {E : Value → Shared → Prop} {s : Shared}
theorem isExc_own {C : Addr} {Q : Bool → Shared → Prop} (X : XCls s.heap C) (h : Q true s) : wpAny M A (isExcClass (.ref C)) Q E s := by
  obtain ⟨nm, q, N, bs, sn, sub, ab, col, dd, k0, k1, k2, k3, k5, hC⟩ := X.ex
  obtain ⟨hp, g, d, tk, os⟩ := s
  have hT : (⟨hp, g, d, tk, os⟩ : Shared).TypeIs (.ref C) "type" := ⟨_, hC, rfl⟩
  have f3 := tc_sub
  have cB : (Value.ref C :: bmX).contains (.type "BaseException") = true := by rw [List.contains_cons]; simp [bmX]
  unfold isExcClass
  repeat (any_goals (first | assumption | with_reducible refine wpAny_loadPart_at hC ?_ | (with_reducible refine wpAny_isSubtype_exc hC ?_; rw [cB]) | wp_step))
theorem sub_own {C D : Addr} {Q : Bool → Shared → Prop} (X : XCls s.heap C) (h : Q (decide (C = D)) s) : wpAny M A (isSubtype (.ref C) (.ref D)) Q E s := by
  obtain ⟨nm, q, N, bs, sn, sub, ab, col, dd, k0, k1, k2, k3, k5, hC⟩ := X.ex
  obtain ⟨hp, g, d, tk, os⟩ := s
  refine wpAny_isSubtype_exc hC ?_
  have e : (Value.ref C :: bmX).contains (.ref D) = decide (C = D) := by
    by_cases z : C = D
    · subst z; simp
    · rw [decide_eq_false z]
      simp [bmX, Ne.symm z]
  rw [e]; exact h
theorem matches2 {p tup C C1 C2 : Addr} {o : Obj} {Q : Bool → Shared → Prop} (ht : IsTup s.heap tup #[.ref C1, .ref C2]) (X : XCls s.heap C) (X1 : XCls s.heap C1) (X2 : XCls s.heap C2) (hp : s.heap.get? p = some o) (hc : o.cls = .ref C)
    (hx : C = C1 ∨ C = C2) (h : Q true s) : wpAny M A (excMatches (.ref p) (.ref tup)) Q E s := by
  obtain ⟨ot, ho, hct, n, hd⟩ := ht
  unfold excMatches
  refine wpAny_bind (wpAny_isInstance ⟨ot, ho, hct⟩ isSubtype_tuple_tuple ?_)
  dsimp only
  rw [if_pos rfl]
  refine wpAny_bind (wpAny_seqItems ho hd ?_)
  dsimp only [Option.getD_some, Option.getD]
  refine wpAny_bind (wpAny_pure ?_)
  have ty : ∀ {Q' : Value → Shared → Prop}, Q' (.ref C) s → wpAny M A (typeOf (.ref p)) Q' E s := fun {Q'} z => by
    obtain ⟨hp', g, d, tk, os⟩ := s
    repeat (any_goals (first | assumption | (with_reducible refine wpAny_loadPart_at hp ?_; rw [hc]) | wp_step))
  simp only [List.forIn_cons, List.forIn_nil, pure_bind, bind_assoc]
  refine wpAny_bind (isExc_own X1 ?_)
  simp only [Bool.not_true, Bool.false_eq_true, if_false, pure_bind, bind_assoc]
  refine wpAny_bind (isExc_own X2 ?_)
  simp only [Bool.not_true, Bool.false_eq_true, if_false, pure_bind, bind_assoc]
  refine wpAny_bind (ty ?_)
  refine wpAny_bind (sub_own X ?_)
  by_cases z : C = C1
  · rw [decide_eq_true z]
    simp only [if_true, pure_bind]
    exact wpAny_pure h
  · rw [decide_eq_false z]
    simp only [Bool.false_eq_true, if_false, pure_bind, bind_assoc]
    refine wpAny_bind (sub_own X ?_)
    rw [decide_eq_true (hx.resolve_left z)]
    simp only [if_true, pure_bind]
    exact wpAny_pure h
end
end XX

set_option Elab.async false
set_option linter.all false
set_option maxRecDepth 100000
set_option maxHeartbeats 2000000
namespace L2
open PySem PySem.Spec PyProof.Rows
/-! ### exceptions: an own class right under Exception, whose __init__ stores -/
def del (H : Hp) (p : Addr) : Hp := fun b => if b = p then none else H b
theorem del_same {H : Hp} {p : Addr} : del H p p = none := by unfold del; rw [if_pos rfl]
theorem del_ne {H : Hp} {p b : Addr} (h : b ≠ p) : del H p b = H b := by unfold del; rw [if_neg h]
theorem del_none {H : Hp} {p b : Addr} (h : H b = none) : del H p b = none := by
  unfold del
  split
  · rfl
  · exact h
theorem of_del {H : Hp} {p b : Addr} {o : HO} (h : del H p b = some o) : b ≠ p ∧ H b = some o := by
  unfold del at h
  split at h
  · cases h
  · rename_i z; exact ⟨z, h⟩
/-- an exception that has not flown yet; one whose flight is none of our concern -/
def xo (a C : Addr) (d : Option Addr) : HO := .ext fun h => ∃ vs, h.get? a = some ⟨.ref C, d, .fields vs, #[]⟩ ∧ vs[1]? = some .none
def xq (a C dx : Addr) : HO := .ext fun h => ∃ vs, h.get? a = some ⟨.ref C, some dx, .fields vs, #[]⟩
/-- what is known of the class at C (its __init__ at fI) and of the name f there -/
structure XCl (K : PySem.W.Frag) (C fI : Addr) (f : Str) : Prop where
  ex : ∃ nm q N bs sn sub ab col dd k0 k1 k2 k3 k5, K.lookup C = some (excClassObj nm q C N bs XX.bmX true sn sub ab col dd k0 k1 k2 k3 k5 "Exception.__new__") ∧ PySem.W.nsOkIn K N = true ∧
    PySem.W.nsIn K N "__init__" = some (some (.ref fI)) ∧ PySem.W.nsIn K N "__setattr__" = some none ∧ PySem.W.nsIn K N "__getattribute__" = some none ∧ PySem.W.nsIn K N "__getattr__" = some none ∧ PySem.W.nsIn K N f = some none
  fo : ∃ od dt sl, K.lookup fI = some ⟨.type "function", od, dt, sl⟩
  kp : PySem.W.keepIn K (.ref C) = true
  low : typeLookup (.type "Exception") f = pure none
theorem ns_some {K : PySem.W.Frag} {h : Heap} {N : Addr} {mg : Str → Option Value} {n : Str} {v : Value} (X : K.In h) (G : h.Ns N mg) (e : PySem.W.nsIn K N n = some (some v)) : mg n = some v := by
  obtain ⟨o, es, ep, ho, hd, _, hf⟩ := G
  unfold PySem.W.nsIn at e
  split at e
  · rename_i c d es' n' sl q
    have z := X _ _ q
    rw [ho] at z
    cases z
    cases hd
    split at e
    · rename_i en he
      cases e
      rw [← hf]
      unfold nsFind findBy
      rw [← Array.find?_toList, he]
      rfl
    · split at e <;> cases e
  · cases e
theorem XCl.cls {K : PySem.W.Frag} {C fI : Addr} {f : Str} {h : Heap} (c : XCl K C fI f) (X : K.In h) : XX.XCls h C := by
  obtain ⟨nm, q, N, bs, sn, sub, ab, col, dd, k0, k1, k2, k3, k5, hC, _⟩ := c.ex
  exact ⟨⟨nm, q, N, bs, sn, sub, ab, col, dd, k0, k1, k2, k3, k5, X _ _ hC⟩⟩
/-- p is an exception with the dict dx, none of the old addresses; so its traceback's head -/
def Abo (old : Addr → Prop) (H : Hp) (h : Heap) (p C dx : Addr) : Prop :=
  ∃ vs, h.get? p = some ⟨.ref C, some dx, .fields vs, #[]⟩ ∧ XX.Head h p vs ∧ ¬ old p ∧ (∀ T, vs[1]? = some (.ref T) → ¬ old T ∧ H T = none) ∧ H p = none
abbrev inH (h : Heap) : Addr → Prop := fun b => ∃ o, h.get? b = some o
/-- how an exception lies behind a call -/
def CXE (P : Program) (w : World) : CXT := fun outer H s E e s' => ∃ p C dx H', e = .ref p ∧ s'.os = s.os ∧ AllBare s'.gens ∧ Un (frs outer) [] H H' s.heap s'.heap ∧ HOk P w H' s'.heap ∧
  Abo (inH s.heap) H' s'.heap p C dx ∧ E (.ref C) (some dx) H'

theorem Abo.mono {old old' : Addr → Prop} {H : Hp} {h : Heap} {p C dx : Addr} (a : Abo old H h p C dx) (k : ∀ b, old' b → old b) : Abo old' H h p C dx := by
  obtain ⟨vs, h1, h2, h3, h4, h5⟩ := a
  exact ⟨vs, h1, h2, fun z => h3 (k _ z), fun T e => ⟨fun z => (h4 T e).1 (k _ z), (h4 T e).2⟩, h5⟩
/-- behind a frame's entry -/
theorem Abo.past {old : Addr → Prop} {H : Hp} {h h' : Heap} {l : List Env} {p C dx T : Addr} {vs : Array Value} {skip : Addr → Prop} (hv : h.get? p = some ⟨.ref C, some dx, .fields vs, #[]⟩) (hh : XX.Head h p vs) (np : ¬ old p) (hp : H p = none)
    (P : XX.Past l p ⟨.ref C, some dx, .fields vs, #[]⟩ vs skip h h' T) (k : ∀ b, old b → b < h.objs.size) (nT : H T = none) : Abo old H h' p C dx := by
  have hsz : 1 < vs.size := by
    rcases hh with z | ⟨_, _, _, z, _⟩ <;> exact (Array.getElem?_eq_some_iff.mp z).1
  have e1 : (vs.setIfInBounds 1 (Value.ref T))[1]? = some (.ref T) := by
    rw [Array.getElem?_setIfInBounds_self]; simp [hsz]
  obtain ⟨oT, ts, q1, q2, q3⟩ := P.ent
  refine ⟨_, P.exc, .inr ⟨T, oT, ts, e1, ?_, q1, q2, q3⟩, np, fun T' e => ?_, hp⟩
  · exact Nat.ne_of_gt (Nat.lt_of_lt_of_le (Heap.lt_size hv) P.new)
  · rw [e1] at e
    cases e
    exact ⟨fun z => absurd (Nat.lt_of_lt_of_le (k _ z) P.new) (Nat.lt_irrefl _), nT⟩

section
variable {X : Cx} {pins : List (Addr × Obj)} {σ : St} {H : Hp} {s : Shared}
/-- untracked records of ours have changed, and the frames' slots -/
theorem Inv.poke {Z : Addr → Prop} {h' : Heap} {t' : Nat} (I : Inv X pins σ H s) (hz : ∀ b, Z b → ¬ inH X.s_0.heap b ∧ H b = none ∧ b ≠ X.env.locals ∧ (∀ x c, X.env.cells.lookup x = some c → c ≠ b) ∧ (∀ p ∈ X.pn ++ pins, p.1 ≠ b))
    (keep : ∀ b o, s.heap.get? b = some o → b ∉ frs X.stack → ¬ Z b → h'.get? b = some o)
    (slot : ∀ b o, s.heap.get? b = some o → b ∈ frs X.stack → ∃ sl, h'.get? b = some { o with slots := sl })
    (there : ∀ b o, s.heap.get? b = some o → ∃ o', h'.get? b = some o') : Inv X pins σ H { s with heap := h', toks := t' } := by
  have up : ∀ b o, s.heap.get? b = some o → ¬ Z b → ∃ sl, h'.get? b = some { o with slots := sl } := fun b o e n => by
    by_cases hb : b ∈ frs X.stack
    · exact slot b o e hb
    · exact ⟨o.slots, keep b o e hb n⟩
  have nZ0 : ∀ b o, X.s_0.heap.get? b = some o → ¬ Z b := fun b o e z => (hz b z).1 ⟨o, e⟩
  have nL : ∀ b o, X.s_0.heap.get? b = some o → b ∉ X.fs → b ∉ frs X.stack := fun b o e nb z => by
    rcases List.mem_cons.mp (I.stkSub b z) with q | q
    · rw [q] at e
      exact absurd (Nat.lt_of_lt_of_le (Heap.lt_size e) I.ok.above) (Nat.lt_irrefl _)
    · exact nb q
  have cellK : ∀ x c, X.env.cells.lookup x = some c → ∀ v, s.heap.IsCell c v → h'.IsCell c v := fun x c e v ⟨o, ho, hd⟩ => by
    obtain ⟨sl, q⟩ := up c o ho fun z => (hz c z).2.2.2.1 x c e rfl
    exact ⟨_, q, hd⟩
  refine ⟨I.ok, I.os, I.bare, ⟨fun b o e n hb hx => ?_, fun b o e n hb hx => ?_, I.base.free, fun b o e hx => ?_, I.base.tups, I.base.frzs, I.base.tbls⟩, ?_, fun x c e => ?_, I.free, I.freeC, fun p hp => ?_, fun a o e => ?_, I.len⟩
  · exact keep b o (I.base.keep b o e n hb hx) (nL b o e hb) (nZ0 b o e)
  · obtain ⟨sl, e1⟩ := I.base.slot b o e n hb hx
    obtain ⟨sl2, e2⟩ := up b _ e1 (nZ0 b o e)
    exact ⟨sl2, e2⟩
  · obtain ⟨o', e1⟩ := I.base.there b o e hx
    exact there b o' e1
  · obtain ⟨m, ⟨o, es, ep, ho, r⟩, hl⟩ := I.loc
    obtain ⟨sl, q⟩ := up _ o ho fun z => (hz _ z).2.2.1 rfl
    refine ⟨m, ⟨_, es, ep, q, r⟩, fun i x v e1 e2 e3 => ?_⟩
    obtain ⟨u, ru, l⟩ := hl i x v e1 e2 e3
    refine ⟨u, ru, ?_⟩
    rcases l with l | ⟨k, c, e, z⟩
    · exact .inl l
    · exact .inr ⟨k, c, e, cellK x c e _ z⟩
  · obtain ⟨v, z⟩ := I.cell x c e
    exact ⟨v, cellK x c e v z⟩
  · obtain ⟨e, n, ne, nf, d⟩ := I.pin p hp
    refine ⟨keep _ _ e (fun z => ?_) fun z => (hz _ z).2.2.2.2 p hp rfl, n, ne, nf, d⟩
    rcases List.mem_cons.mp (I.stkSub _ z) with q | q
    · exact ne q
    · exact nf q
  · have trk : ∀ b u, H b = some u → b ∉ frs X.stack ∧ ¬ Z b := fun b u q => ⟨fun z => (by rw [I.stkFree b z] at q; cases q), fun z => (by rw [(hz b z).2.1] at q; cases q)⟩
    refine (I.hok a o e).stay (fun b u hb q => ?_) (fun _ q => q) fun _ _ q => q
    rcases hb with rfl | hb
    · exact keep _ u q (trk _ _ e).1 (trk _ _ e).2
    · exact keep b u q (trk _ _ hb).1 (trk _ _ hb).2
/-- an untracked object of ours is tracked from here on -/
theorem Inv.track {p : Addr} {φ : Heap → Prop} (I : Inv X pins σ H s) (hn : ¬ inH X.s_0.heap p) (hp : H p = none) (hL : p ≠ X.env.locals) (hc : ∀ x c, X.env.cells.lookup x = some c → c ≠ p) (hpin : ∀ q ∈ X.pn ++ pins, q.1 ≠ p)
    (new : ObjOk X.prog X.w (upd H p (.ext φ)) s.heap p (.ext φ)) : Inv X pins σ (upd H p (.ext φ)) s := by
  have up : ∀ b u, H b = some u → b ≠ p := fun b u e z => by rw [z, hp] at e; cases e
  refine ⟨I.ok, I.os, I.bare, ⟨I.base.keep, I.base.slot, fun b o e n hx => ?_, I.base.there, fun b xs e => ?_, fun b o u e => ?_, fun b ps e => ?_⟩, I.loc, I.cell, ?_, fun x c e => ?_, fun q hq => ?_, fun a o e => ?_, I.len⟩
  · rw [upd_ne fun z => hn ⟨o, by rw [← z]; exact e⟩]
    exact I.base.free b o e n hx
  · have q := I.base.tups b xs e
    rw [upd_ne (up _ _ q)]; exact q
  · have q := I.base.frzs b o u e
    rw [upd_ne (up _ _ q)]; exact q
  · obtain ⟨more, q⟩ := I.base.tbls b ps e
    exact ⟨more, by rw [upd_ne (up _ _ q)]; exact q⟩
  · rw [upd_ne (Ne.symm hL)]; exact I.free
  · rw [upd_ne (hc x c e)]; exact I.freeC x c e
  · obtain ⟨e, n, r⟩ := I.pin q hq
    exact ⟨e, by rw [upd_ne (hpin q hq)]; exact n, r⟩
  · by_cases z : a = p
    · subst z
      rw [upd_same] at e
      cases e
      exact new
    · rw [upd_ne z] at e
      exact (I.hok a o e).stay (fun _ _ _ q => q) (fun b q => by rw [upd_ne (up _ _ q)]; exact q) fun b xs q => by rw [upd_ne (up _ _ q)]; exact q
/-- .. or no more -/
theorem Inv.drop {p : Addr} {φ : Heap → Prop} (I : Inv X pins σ H s) (hp : H p = some (.ext φ)) : Inv X pins σ (del H p) s := by
  have up : ∀ b u, H b = some u → (∀ ψ, u ≠ .ext ψ) → b ≠ p := fun b u e n z => by
    rw [z, hp] at e
    cases e
    exact n _ rfl
  refine ⟨I.ok, I.os, I.bare, ⟨I.base.keep, I.base.slot, fun b o e n hx => del_none (I.base.free b o e n hx), I.base.there, fun b xs e => ?_, fun b o u e => ?_, fun b ps e => ?_⟩, I.loc, I.cell, del_none I.free, fun x c e => del_none (I.freeC x c e), fun q hq => ?_, fun a o e => ?_, I.len⟩
  · have q := I.base.tups b xs e
    rw [del_ne (up _ _ q fun _ z => by cases z)]; exact q
  · have q := I.base.frzs b o u e
    rw [del_ne (up _ _ q fun _ z => by cases z)]; exact q
  · obtain ⟨more, q⟩ := I.base.tbls b ps e
    exact ⟨more, by rw [del_ne (up _ _ q fun _ z => by cases z)]; exact q⟩
  · obtain ⟨e, n, r⟩ := I.pin q hq
    exact ⟨e, del_none n, r⟩
  · obtain ⟨z, e⟩ := of_del e
    exact (I.hok a o e).stay (fun _ _ _ q => q) (fun b q => by rw [del_ne (up _ _ q fun _ z => by cases z)]; exact q) fun b xs q => by rw [del_ne (up _ _ q fun _ z => by cases z)]; exact q
/-- a fields' record is no frame, no cell -/
theorem Inv.recd {p : Addr} {o : Obj} {vs : Array Value} (I : Inv X pins σ H s) (e : s.heap.get? p = some o) (d : o.data = .fields vs) : p ≠ X.env.locals ∧ (∀ x c, X.env.cells.lookup x = some c → c ≠ p) ∧ p ∉ frs X.stack := by
  refine ⟨fun z => ?_, fun x c h z => ?_, fun z => ?_⟩
  · obtain ⟨m, ⟨o', es, ep, ho', hd', _⟩, _⟩ := I.loc
    rw [z, ho'] at e; cases e; rw [hd'] at d; cases d
  · obtain ⟨v, o', ho', hd'⟩ := I.cell x c h
    rw [z, e] at ho'; cases ho'; rw [d] at hd'; cases hd'
  · obtain ⟨_, o', ho', hn⟩ := I.stack.mem z
    rw [e] at ho'; cases ho'; exact hn vs d
/-- an exception aboard, behind the entry of the frame that runs -/
theorem Inv.past {p C dx T : Addr} {vs : Array Value} {h' : Heap} {old : Addr → Prop} (I : Inv X pins σ H s) (hv : s.heap.get? p = some ⟨.ref C, some dx, .fields vs, #[]⟩) (hh : XX.Head s.heap p vs) (np : ¬ old p)
    (nt : ∀ T, vs[1]? = some (.ref T) → ¬ old T ∧ H T = none) (hp : H p = none) (P : XX.Past X.stack p ⟨.ref C, some dx, .fields vs, #[]⟩ vs (fun b => vs[1]? = some (.ref b)) s.heap h' T)
    (k0 : ∀ b, inH X.s_0.heap b → old b) (k1 : ∀ q ∈ X.pn ++ pins, old q.1) : Inv X pins σ H { s with heap := h' } := by
  refine I.poke (t' := s.toks) (Z := fun b => b = p ∨ vs[1]? = some (.ref b)) (fun b z => ?_) (fun b o e nb nz => P.keep b o e nb (fun z => nz (.inl z)) fun z => nz (.inr z)) P.slot P.there
  rcases z with rfl | z
  · obtain ⟨a1, a2, _⟩ := I.recd hv rfl
    exact ⟨fun z => np (k0 _ z), hp, a1, a2, fun q hq z => np (by rw [← z]; exact k1 q hq)⟩
  · obtain ⟨n1, n2⟩ := nt b z
    rcases hh with z2 | ⟨T2, oT, ts, z2, _, hT, hd, _⟩
    · rw [z] at z2; cases z2
    · rw [z] at z2
      cases z2
      obtain ⟨a1, a2, _⟩ := I.recd hT hd
      exact ⟨fun z => n1 (k0 _ z), n2, a1, a2, fun q hq z => n1 (by rw [← z]; exact k1 q hq)⟩
end
/-- a frame is left -/
theorem leave_ok {P : Program} {w : World} {K : PySem.W.Frag} {mg : Str → Option Value} {base : Heap} {N : List Str} {qual : Str} {scope : Scope} {f : Addr} {cd : Value} {A : Around} {outer : List Env} {s0 : Shared} {H0 : Hp} {E : XK} {pins : List (Addr × Obj)} {σ : St} {H : Hp} {s : Shared} {p C dx : Addr}
    (I : Inv (cxOf (CXE P w) P w K mg base N qual scope f cd A outer s0 H0 E) pins σ H s) (B : Abo (inH s0.heap) H s.heap p C dx) (hE : E (.ref C) (some dx) H) :
    (cxOf (CXE P w) P w K mg base N qual scope f cd A outer s0 H0 E).xe (.ref p) s := by
  obtain ⟨vs, hv, hh, np, nt, hp⟩ := B
  refine XX.leave_any (base := base) (L := s0.heap.objs.size) I.ok.frames I.stack rfl hv rfl hh fun h' T Pa => ?_
  have I0 : Inv (cxOf (CXE P w) P w K mg base N qual scope f cd A outer s0 H0 E) [] σ H s := I.pins_of fun q hq => nomatch hq
  have I2 := I0.past (old := inH s0.heap) hv hh np nt hp Pa (fun b z => z) fun q hq => absurd (show q ∈ ([] : List (Addr × Obj)) from hq) (by simp)
  exact ⟨p, C, dx, H, rfl, I2.os, I2.bare, I2.base, I2.hok, Abo.past hv hh np hp Pa (fun b ⟨o, e⟩ => Nat.lt_of_lt_of_le (Heap.lt_size e) I.sz) (I.hok.fresh Pa.new), hE⟩
/-- an exception of a callee leaves this frame too -/
theorem passX {P : Program} {w : World} {K : PySem.W.Frag} {mg : Str → Option Value} {base : Heap} {N : List Str} {qual : Str} {scope : Scope} {f : Addr} {cd : Value} {A : Around} {outer : List Env} {s0 : Shared} {H0 : Hp} {E : XK} :
    Passes (CXE P w) (cxOf (CXE P w) P w K mg base N qual scope f cd A outer s0 H0 E) E := by
  intro pins σ H s e s' I h
  obtain ⟨p, C, dx, H', rfl, os, bare, un, hok, B, hE⟩ := h
  have I2 := I.call' os un hok bare fun b z => nomatch z
  exact leave_ok I2 (B.mono fun b ⟨o, z⟩ => I.base.there b o z (by intro q; exact nomatch q)) hE
end L2

set_option Elab.async false
set_option linter.all false
set_option maxRecDepth 100000
set_option maxHeartbeats 2000000
namespace L2
open PySem PySem.Spec PyProof.Rows
theorem ObjOk.there {P : Program} {w : World} {H : Hp} {h : Heap} {p : Addr} {u : HO} (z : ObjOk P w H h p u) : ∃ o, h.get? p = some o := by
  induction u with
  | lst xs => obtain ⟨_, its, n, _, e⟩ := z; exact ⟨_, e⟩
  | tup xs => obtain ⟨_, its, _, ob, e, _⟩ := z; exact ⟨_, e⟩
  | dK kvs => obtain ⟨_, _, vs, _, ob, es, ep, e, _⟩ := z; exact ⟨_, e⟩
  | dT kvs => obtain ⟨_, _, xs, _, ob, es, ep, e, _⟩ := z; exact ⟨_, e⟩
  | set S n => obtain ⟨ob, es, ep, t, e, _⟩ := z; exact ⟨_, e⟩
  | ins C dx fs => obtain ⟨_, _, _, e, _⟩ := z; exact ⟨_, e⟩
  | own y => exact z
  | xd fs => obtain ⟨mA, ⟨od, es, ep, e, _⟩, _⟩ := z; exact ⟨_, e⟩
  | rng lo hi => obtain ⟨t, u, v, e⟩ := z; exact ⟨_, e⟩
  | frz ob u ih => obtain ⟨e, _⟩ := z; exact ⟨_, e⟩
  | tbl ps => exact ⟨_, z⟩
  | met f y => exact ⟨_, z⟩
  | ext φ => obtain ⟨_, e, _⟩ := z; exact e
section
variable {X : Cx} {pins : List (Addr × Obj)} {σ : St} {H : Hp} {s : Shared}
/-- a new record is laid and tracked (its address is known to be free) -/
theorem Inv.laidX {p : Addr} {φ : Heap → Prop} {h' : Heap} {t' : Nat} (hex : X.ex = []) (I : Inv X pins σ H s) (k : ∀ b o, s.heap.get? b = some o → h'.get? b = some o) (hp : s.heap.get? p = none) (new : φ h' ∧ (∃ o, h'.get? p = some o) ∧ ∀ h1 h2 : Heap, φ h1 → (∀ o, h1.get? p = some o → h2.get? p = some o) → φ h2) :
    Inv X pins σ (upd H p (.ext φ)) { s with heap := h', toks := t' } := by
  have I1 : Inv X pins σ H { s with heap := h', toks := t' } := I.kept k
  have nh : ∀ b o, s.heap.get? b = some o → b ≠ p := fun b o e z => by rw [z, hp] at e; cases e
  have h0 : H p = none := by
    cases q : H p with
    | none => rfl
    | some u =>
      obtain ⟨o, e⟩ := (I.hok p u q).there
      rw [hp] at e; cases e
  have hn : ¬ inH X.s_0.heap p := fun ⟨o, e⟩ => by
    obtain ⟨o', e'⟩ := I.base.there p o e (by rw [hex]; exact fun z => nomatch z)
    rw [hp] at e'; cases e'
  refine I1.track hn h0 ?_ ?_ ?_ new
  · exact fun z => by
      obtain ⟨m, ⟨o, _, _, ho, _⟩, _⟩ := I.loc
      exact nh _ o ho z.symm
  · intro x c e z
    obtain ⟨v, o, ho, _⟩ := I.cell x c e
    exact nh c o ho z
  · exact fun q hq z => nh _ _ (I.pin q hq).1 z
end
/-! ### raise C(..) -/
def tRaise (C : Addr) (sp : Sp) (E : XK) (t : TA) : TS := fun _ σ H => t σ H fun vs H1 => vs.length ≤ sizeLine ∧ ∀ p, H1 p = none → sp (.ref p :: vs) (upd H1 p (xo p C none)) (fun v H2 => v = .non ∧ ∃ dx, H2 p = some (xo p C (some dx)) ∧ E (.ref C) (some dx) (del H2 p)) E0
/-- an exception that stands in the frame that runs reaches what is wanted -/
def Flies (X : Cx) (E : XK) : Prop := ∀ (pins : List (Addr × Obj)) (σ : St) (H : Hp) (s : Shared) (p C dx : Addr), Inv X pins σ H s → Abo (inH X.s_0.heap) H s.heap p C dx → E (.ref C) (some dx) H → X.xe (.ref p) s
section
variable {X : Cx} {k : Nat} {f fI C : Addr} {fd : FuncData} {ps : List Str} {sp : Sp} {E : XK} {x fl : Str} {np cpos pos : Pos} {e : Expr} {es : List Expr} {t : TA}
/-- the class is called -/
theorem make_exc {pins : List (Addr × Obj)} {σ : St} {H : Hp} {s : Shared} {us : List Value} {vs : List V} (hex : X.ex = []) (hfl : Flies X E) (c : XCl X.K C fI fl) (F : FnOk X.prog X.w X.K X.mg X.base CX0 k fI fd ps sp) (hr : Room (k + 1) X.A) (hb : Binds X.K fd ps [])
    (I : Inv X pins σ H s) (r : Vals vs us) (hlen : vs.length ≤ sizeLine)
    (h : ∀ p, H p = none → sp (.ref p :: vs) (upd H p (xo p C none)) (fun v H2 => v = .non ∧ ∃ dx, H2 p = some (xo p C (some dx)) ∧ E (.ref C) (some dx) (del H2 p)) E0) :
    wpAny (model X.prog X.w) X.A (call (.ref C) us) (fun v s1 => ∃ p o ws, v = .ref p ∧ X.K.In s1.heap ∧ s1.heap.get? p = some o ∧ o.cls = .ref C ∧ o.data = .fields ws ∧ ws[1]? = some .none ∧ X.xe (.ref p) s1) X.xe s := by
  obtain ⟨nm, q, N, bs, sn, sub, ab, col, dd, k0, k1, k2, k3, k5, hC, hns, hi, hsa, hga, hgt, hff⟩ := c.ex
  have KX := I.kIn
  have nsN : s.heap.Ns N (s.heap.nsMap N) := .of_isNs (PySem.W.isNs_of_in KX hns)
  have hinit : s.heap.nsMap N "__init__" = some (.ref fI) := ns_some KX nsN hi
  obtain ⟨odI, dtI, slI, hoI⟩ := c.fo
  obtain ⟨hh, g, d, tk, os⟩ := s
  refine wpAny_call_exc_init PySem.F.excBase_Exception (KX _ _ hC) nsN hinit (KX _ _ hoI) rfl (fun h' p hm => ?_) (by rw [← r.length]; exact hlen)
  obtain ⟨t0, hp, _, _⟩ := hm.there
  have I2 : Inv X pins σ (upd H p (xo p C none)) ⟨h', g, d, tk, os⟩ := I.laidX hex (t' := tk) hm.keeps hm.new ⟨⟨_, hp, rfl⟩, ⟨_, hp⟩, fun h1 h2 ⟨ws, e1, e2⟩ k2 => ⟨ws, k2 _ e1, e2⟩⟩
  have h0 : H p = none := by
    cases z : H p with
    | none => rfl
    | some u =>
      obtain ⟨o, e⟩ := (I.hok p u z).there
      rw [hm.new] at e; cases e
  have hq := h p h0
  have r2 : Vals (V.ref p :: vs) (Value.ref p :: us) := .cons rfl r
  have hl : (Value.ref p :: us ++ []).length = ps.length := by
    rw [List.append_nil, ← r2.length]
    exact F.len _ _ _ _ hq
  have hbd := hb ⟨h', g, d, tk, os⟩ (Value.ref p :: us) I2.kIn hl
  rw [List.append_nil] at hbd
  refine wpAny_call (codeAny_mono (F.run _ X.stack _ _ ⟨Value.ref p :: us, []⟩ (Value.ref p :: us) _ _ E0 (hr.make C us []) (I2.env0.make C us []) hbd r2 hq) fun r' s' hq' => ?_)
  cases r' with
  | error e => exact hq'.elim
  | ok fl =>
    cases fl with
    | next => exact False.elim hq'
    | brk => exact False.elim hq'
    | cont => exact False.elim hq'
    | ret u =>
      obtain ⟨v, H', I3, rv, ev, dx, hx, hE⟩ := I2.after hq'
      subst ev
      obtain ⟨⟨ws, e1, e2⟩, _, _⟩ := I3.hok p _ hx
      refine ⟨rv, p, _, ws, rfl, I3.kIn, e1, rfl, rfl, e2, ?_⟩
      refine hfl pins σ (del H' p) s' p C dx (I3.drop hx) ⟨ws, e1, .inl e2, ?_, fun T z => (by rw [e2] at z; cases z), del_same⟩ hE
      intro ⟨o, z⟩
      obtain ⟨o', z'⟩ := I.base.there p o z (by rw [hex]; exact fun q => nomatch q)
      have z2 : hh.get? p = some o' := z'
      rw [hm.new] at z2; cases z2
theorem ps_raise (hex : X.ex = []) (hfl : Flies X E) (c : XCl X.K C fI fl) (F : FnOk X.prog X.w X.K X.mg X.base CX0 k fI fd ps sp) (hr : Room (k + 1) X.A) (hg : Gl X x) (hm : X.mg x = some (.ref C)) (hb : Binds X.K fd ps [])
    (ha : PA X (e :: es) t) (hdb : (x == ("__debug__" : Str)) = false := by decide) (he : starEach (e :: es) X.env = (false, eval e X.env) :: starEach es X.env := by rfl) (hpl : (backTo cpos (starEach es X.env)).any (·.1) = false := by rfl) :
    PS X (.Raise (some (.Call (.Name x np) (e :: es) [] cpos)) none pos) (tRaise C sp E t) := by
  intro pins s σ H D I h
  obtain ⟨nm, q, N, bs, sn, sub, ab, col, dd, k0, k1, k2, k3, k5, hC, _⟩ := c.ex
  rw [arm_exec_Raise]
  refine wpAny_bind (wpAny_standAt (XX.raise_made (C := C) (nm := nm) (q := q) (N := N) (bs := bs) (bm := XX.bmX) (hdct := true) (sn := sn) (sub := sub) (ab := ab) (col := col) (dd := dd) (k0 := k0) (k1 := k1) (k2 := k2) (k3 := k3) (k5 := k5) (newId := "Exception.__new__") (by decide +kernel) hr.hd ?_))
  refine wpAny_bind (wpAny_mono (Q := fun v s1 => ∃ p o ws, v = .ref p ∧ X.K.In s1.heap ∧ s1.heap.get? p = some o ∧ o.cls = .ref C ∧ o.data = .fields ws ∧ ws[1]? = some .none ∧ X.xe (.ref p) s1) ?_ (fun v s3 ⟨p, o, ws, e1, e2, e3, e4, e5, e6, e7⟩ => wpAny_bind (wpAny_standAt (wpAny_pure ⟨p, o, ws, e1, e2 _ _ hC, e3, e4, e5, e6, e7⟩))) fun _ _ z => z)
  refine wpAny_Call_Name_kw (ld_glob I hg hm ?_ hdb)
  refine PySem.W.callWith_K (h₀ := X.base) I.ok.mod.kin c.kp (thn (ha cpos pins s σ H _ I h) fun us s1 ⟨vs, H1, I1, r, hl, q⟩ => ⟨I1.kIn, ?_⟩) he hpl
  exact make_exc hex hfl c F hr hb I1 r hl q
theorem ps_raise0 (hex : X.ex = []) (hfl : Flies X E) (c : XCl X.K C fI fl) (F : FnOk X.prog X.w X.K X.mg X.base CX0 k fI fd ps sp) (hr : Room (k + 1) X.A) (hg : Gl X x) (hm : X.mg x = some (.ref C)) (hb : Binds X.K fd ps [])
    (hdb : (x == ("__debug__" : Str)) = false := by decide) : PS X (.Raise (some (.Call (.Name x np) [] [] cpos)) none pos) (tRaise C sp E tNil) := by
  intro pins s σ H D I h
  obtain ⟨nm, q, N, bs, sn, sub, ab, col, dd, k0, k1, k2, k3, k5, hC, _⟩ := c.ex
  rw [arm_exec_Raise]
  refine wpAny_bind (wpAny_standAt (XX.raise_made (C := C) (nm := nm) (q := q) (N := N) (bs := bs) (bm := XX.bmX) (hdct := true) (sn := sn) (sub := sub) (ab := ab) (col := col) (dd := dd) (k0 := k0) (k1 := k1) (k2 := k2) (k3 := k3) (k5 := k5) (newId := "Exception.__new__") (by decide +kernel) hr.hd ?_))
  refine wpAny_bind (wpAny_mono (Q := fun v s1 => ∃ p o ws, v = .ref p ∧ X.K.In s1.heap ∧ s1.heap.get? p = some o ∧ o.cls = .ref C ∧ o.data = .fields ws ∧ ws[1]? = some .none ∧ X.xe (.ref p) s1) ?_ (fun v s3 ⟨p, o, ws, e1, e2, e3, e4, e5, e6, e7⟩ => wpAny_bind (wpAny_standAt (wpAny_pure ⟨p, o, ws, e1, e2 _ _ hC, e3, e4, e5, e6, e7⟩))) fun _ _ z => z)
  refine wpAny_Call_Name_kw (ld_glob I hg hm ?_ hdb)
  exact PySem.W.callWith_K0 I.kIn c.kp (make_exc (us := []) hex hfl c F hr hb I .nil h.1 h.2)
end
end L2

set_option Elab.async false
set_option linter.all false
set_option maxRecDepth 100000
set_option maxHeartbeats 2000000
namespace L2
open PySem PySem.Spec PyProof.Rows
/-! ### an exception's attribute -/
/-- e.f = value, the first attribute -/
def sFldX (K : PySem.W.Frag) (ta tv : TE) (f : Str) : TS := fun D σ H => tv σ H fun y H1 => ta σ H1 fun x H2 => ∃ a C fI, x = .ref a ∧ H2 a = some (xo a C none) ∧ XCl K C fI f ∧ ∀ dx, H2 dx = none → dx ≠ a → D.nx σ (upd (upd H2 dx (.xd [(f, y)])) a (xo a C (some dx)))
/-- e.f -/
def tFldX (K : PySem.W.Frag) (ta : TE) (f : Str) : TE := fun σ H Q => ta σ H fun x H1 => ∃ a C fI dx fs v, x = .ref a ∧ H1 a = some (xq a C dx) ∧ H1 dx = some (.xd fs) ∧ XCl K C fI f ∧ fs.lookup f = some v ∧ Q v H1
section
variable {X : Cx} {o e value : Expr} {f : Str} {pos pos' : Pos} {ta tv : TE}
theorem ps_fldX (ha : PE X o ta) (hv : PE X value tv) (hs : swapsWith value (some (.Attribute o f pos')) pos.line X.env = pure false) : PS X (.Assign [.Attribute o f pos'] value pos) (sFldX X.K ta tv f) := by
  intro pins s σ H D I h
  refine plainObj_wpAny_Assign_Attribute (thn (hv pins s σ H _ I h) fun u s1 ⟨y, H1, I1, ry, q⟩ => thn (ha pins s1 σ H1 _ I1 q) fun ov s2 ⟨x, H2, I2, rx, a, C, fI, ex, ea, c, q2⟩ => ?_) hs
  subst ex
  obtain rfl : ov = Value.ref a := rx
  obtain ⟨nm, q, N, bs, sn, sub, ab, col, dd, k0, k1, k2, k3, k5, hC, hns, hi, hsa, hga, hgt, hff⟩ := c.ex
  have KX := I2.kIn
  have nsN : s2.heap.Ns N (s2.heap.nsMap N) := .of_isNs (PySem.W.isNs_of_in KX hns)
  obtain ⟨⟨vs, e1, e2⟩, _, _⟩ := I2.hok a _ ea
  obtain ⟨hh, g, d, tk, os⟩ := s2
  refine XX.put_attr PySem.F.store_Exception (KX _ _ hC) nsN (PySem.W.ns_none_of KX nsN hsa) (PySem.W.ns_none_of KX nsN hff) c.low e1 fun h' tk' dx hdx hNs hx hk => ?_
  have fr : H2 dx = none := I2.hok.fresh hdx
  have nda : dx ≠ a := fun z => by rw [z, ea] at fr; cases fr
  have nt : ∀ b u, H2 b = some u → (∀ ψ, u ≠ .ext ψ) → b ≠ a := fun b u e n z => by
    rw [z, ea] at e
    cases e
    exact n _ rfl
  have nd : ∀ b u, H2 b = some u → b ≠ dx := fun b u e z => by rw [z, fr] at e; cases e
  have put : ∀ b, b ≠ a → b ≠ dx → upd (upd H2 dx (.xd [(f, y)])) a (xo a C (some dx)) b = H2 b := fun b n1 n2 => by rw [upd_ne n1, upd_ne n2]
  refine ⟨σ, _, Inv.un (t' := tk') (s := ⟨hh, g, d, tk, os⟩) I2 ⟨fun b ob q n _ _ => ?_, fun b ob q n _ _ => ?_, fun b ob q n _ => ?_, fun b ob q _ => ?_, fun b xs q => ?_, fun b ob u q => ?_, fun b ps q => ?_⟩ (fun b u q => ?_), q2 dx fr nda⟩
  · exact hk b ob (fun z => by rw [z, ea] at n; cases n) q
  · exact ⟨ob.slots, hk b ob (fun z => by rw [z, ea] at n; cases n) q⟩
  · rw [put b (fun z => by rw [z, ea] at n; cases n) fun z => absurd (Heap.lt_size q) (by rw [z]; exact Nat.not_lt.mpr hdx)]
    exact n
  · by_cases z : b = a
    · exact ⟨_, by rw [z]; exact hx⟩
    · exact ⟨ob, hk b ob z q⟩
  · rw [put b (nt _ _ q fun _ z => by cases z) (nd _ _ q)]; exact q
  · rw [put b (nt _ _ q fun _ z => by cases z) (nd _ _ q)]; exact q
  · exact ⟨#[], by rw [put b (nt _ _ q fun _ z => by cases z) (nd _ _ q), q]; simp⟩
  · by_cases z : b = a
    · subst z
      rw [upd_same] at q
      cases q
      exact ⟨⟨vs, hx, e2⟩, ⟨_, hx⟩, fun h1 h2 ⟨ws, f1, f2⟩ k2 => ⟨ws, k2 _ f1, f2⟩⟩
    · rw [upd_ne z] at q
      by_cases z2 : b = dx
      · subst z2
        rw [upd_same] at q
        cases q
        refine ⟨_, hNs, fun fn => ?_⟩
        by_cases z3 : fn = f
        · subst z3
          simp only [if_true]
          rw [List.lookup_cons, beq_self_eq_true]
          exact ry
        · simp only [if_neg z3]
          rw [List.lookup_cons, beq_eq_false_iff_ne.mpr z3]
          exact True.intro
      · rw [upd_ne z2] at q
        refine (I2.hok b u q).stay (fun c2 u2 hc2 q3 => hk c2 u2 ?_ q3) (fun c2 q3 => ?_) fun c2 xs q3 => ?_
        · rcases hc2 with z4 | z4
          · rw [z4]; exact z
          · exact nt _ _ z4 fun _ z5 => by cases z5
        · rw [put _ (nt _ _ q3 fun _ z5 => by cases z5) (nd _ _ q3)]; exact q3
        · rw [put _ (nt _ _ q3 fun _ z5 => by cases z5) (nd _ _ q3)]; exact q3
theorem pe_fldX (he : PE X e ta) (hb : attributeBase e f X.env (eval e X.env) = eval e X.env) : PE X (.Attribute e f pos) (tFldX X.K ta f) := by
  intro pins s σ H Q I h
  refine attr_of hb (thn (he pins s σ H _ I h) fun u s1 ⟨x, H1, I1, rx, a, C, fI, dx, fs, v, ex, ea, ed, c, l, q⟩ => ?_)
  subst ex
  obtain rfl : u = Value.ref a := rx
  obtain ⟨nm, q0, N, bs, sn, sub, ab, col, dd, k0, k1, k2, k3, k5, hC, hns, hi, hsa, hga, hgt, hff⟩ := c.ex
  have KX := I1.kIn
  have nsN : s1.heap.Ns N (s1.heap.nsMap N) := .of_isNs (PySem.W.isNs_of_in KX hns)
  obtain ⟨⟨vs, e1⟩, _, _⟩ := I1.hok a _ ea
  obtain ⟨mA, hA, r⟩ := I1.hok dx _ ed
  obtain ⟨u, hu, ru⟩ := RelO.some_of (v := v) (o := mA f) (by rw [← l]; exact r f)
  have I1' := I1.tok (s1.toks + 1)
  obtain ⟨hh, g, d, tk, os⟩ := s1
  exact XX.look_attr PySem.F.attrBase_Exception (KX _ _ hC) nsN (PySem.W.ns_none_of KX nsN hga) (PySem.W.ns_none_of KX nsN hgt) (PySem.W.ns_none_of KX nsN hff) c.low e1 rfl rfl rfl hA hu (PySem.W.handedOut_of (handed_of ru)) ⟨v, H1, I1', ru, q⟩
end
/-! ### a def whose exceptions leave it -/
section
variable {P : Program} {w : World} {K : PySem.W.Frag} {mg : Str → Option Value} {base : Heap}
theorem fliesX {N : List Str} {qual : Str} {scope : Scope} {f : Addr} {cd : Value} {A : Around} {outer : List Env} {s0 : Shared} {H0 : Hp} {E : XK} : Flies (cxOf (CXE P w) P w K mg base N qual scope f cd A outer s0 H0 E) E :=
  fun _ _ _ _ _ _ _ I B h => leave_ok I B h
theorem ownX {N : List Str} {qual : Str} {scope : Scope} {f : Addr} {cd : Value} {A : Around} {outer : List Env} {s0 : Shared} {H0 : Hp} {E : XK} :
    PassesOwn (model P w) (cxOf (CXE P w) P w K mg base N qual scope f cd A outer s0 H0 E).A (cxOf (CXE P w) P w K mg base N qual scope f cd A outer s0 H0 E).env (cxOf (CXE P w) P w K mg base N qual scope f cd A outer s0 H0 E).xe :=
  PassesOwn.leaving
theorem Fun.okX {x qual : Str} {st : Stmt} {f : Addr} {fd : FuncData} {N ps : List Str} {k : Nat} {sp : Sp} (F : Fun K x qual st f fd) (S : FnScope N ps (defScope st)) (len : ∀ vs H Q E, sp vs H Q E → vs.length = ps.length)
    (hbody : ∀ (cdv : Value) (A : Around) (outer : List Env) (s : Shared) (H : Hp) (vs : List V) (Q : VK) (E : XK), Room k (A.deeper (envOfC qual (defScope st) s.heap.objs.size f cdv)) → sp vs H Q E →
      ∃ t, PSs (cxOf (CXE P w) P w K mg base N qual (defScope st) f cdv A outer s H E) (defBody st) t ∧ t { nx := fun _ H' => Q .non H', rt := Q } (start N vs) H) : FnOk P w K mg base (CXE P w) (k + 1) f fd ps sp := by
  obtain ⟨oc, od, kV, doc, pm, an, cdv, ct, osl, rfl, lk, hcd⟩ := F.ex
  exact fn_of lk hcd S len fun A outer s H vs Q E hr hsp => hbody cdv A outer s H vs Q E hr hsp
end
end L2

set_option Elab.async false
set_option linter.all false
set_option maxRecDepth 100000
set_option maxHeartbeats 2000000
namespace L2
open PySem PySem.Spec PyProof.Rows
/-! ### try .. except (A, B) as n: .. return .. -/
/-- the frame's names are forgotten -/
theorem Inv.reloc {X : Cx} {pins : List (Addr × Obj)} {σ : St} {H : Hp} {s : Shared} {h' : Heap} {m' : Str → Option Value} {t' : Nat} (I : Inv X pins σ H s) (hs : Heap.SameBut X.env.locals s.heap h') (hn : h'.Ns X.env.locals m') :
    Inv X pins (List.replicate X.N.length none) H { s with heap := h', toks := t' } := by
  have n0 : ∀ b o, X.s_0.heap.get? b = some o → b ≠ X.env.locals := fun b o e z => by
    rw [z] at e
    exact absurd (Nat.lt_of_lt_of_le (Heap.lt_size e) I.ok.above) (Nat.lt_irrefl _)
  refine ⟨I.ok, I.os, I.bare, ⟨fun b o e n hb hx => ?_, fun b o e n hb hx => ?_, I.base.free, fun b o e hx => ?_, I.base.tups, I.base.frzs, I.base.tbls⟩, ⟨m', hn, fun i x v _ e2 _ => ?_⟩, fun x c e => ?_, I.free, I.freeC, fun p hp => ?_, fun a o e => ?_, List.length_replicate⟩
  · exact (hs.2 b (n0 b o e)).trans (I.base.keep b o e n hb hx)
  · obtain ⟨sl, q⟩ := I.base.slot b o e n hb hx
    exact ⟨sl, (hs.2 b (n0 b o e)).trans q⟩
  · obtain ⟨o', q⟩ := I.base.there b o e hx
    exact ⟨o', (hs.2 b (n0 b o e)).trans q⟩
  · rw [List.getElem?_replicate] at e2
    split at e2 <;> cases e2
  · obtain ⟨v, o, ho, hd⟩ := I.cell x c e
    exact ⟨v, o, (hs.2 c (I.cne x c e)).trans ho, hd⟩
  · obtain ⟨e, n, ne, r⟩ := I.pin p hp
    exact ⟨(hs.2 _ ne).trans e, n, ne, r⟩
  · have trk : ∀ b u, H b = some u → b ≠ X.env.locals := fun b u q z => by rw [z, I.free] at q; cases q
    refine (I.hok a o e).stay (fun b u hb q => (hs.2 b ?_).trans q) (fun _ q => q) fun _ _ q => q
    rcases hb with z | z
    · rw [z]; exact trk _ _ e
    · exact trk _ _ z
/-- out of the try's body -/
def XE (X : Cx) (pn : List (Addr × Obj)) (E : XK) (e : Value) (s' : Shared) : Prop :=
  ∃ σ H p C dx, e = .ref p ∧ Inv { X with pn := pn, xe := fun _ _ => False } [] σ H s' ∧ Abo (fun b => inH X.s_0.heap b ∨ ∃ q ∈ pn, q.1 = b) H s'.heap p C dx ∧ E (.ref C) (some dx) H
abbrev Cx.bod (X : Cx) (pn : List (Addr × Obj)) (E : XK) : Cx := { X with pn := pn, xe := XE X pn E }
abbrev Cx.han (X : Cx) (pn : List (Addr × Obj)) (e : Value) : Cx := { X with A := X.A.mark (some e), calm := false, pn := pn, xe := fun _ _ => False }
theorem Inv.to {X Y : Cx} {pins pins' : List (Addr × Obj)} {σ : St} {H : Hp} {s : Shared} (I : Inv X pins σ H s) (ok : Y.Ok) (h0 : Y.s_0 = X.s_0) (hH : Y.H_0 = X.H_0) (he : Y.env = X.env) (hN : Y.N = X.N) (ho : Y.outer = X.outer) (hx : Y.ex = X.ex) (hP : Y.prog = X.prog) (hw : Y.w = X.w)
    (hp : ∀ q ∈ Y.pn ++ pins', q ∈ X.pn ++ pins) : Inv Y pins' σ H s :=
  ⟨ok, by rw [h0]; exact I.os, I.bare, by rw [h0, hH, hx]; show Un (frs Y.outer) _ _ _ _ _; rw [ho]; exact I.base, by rw [he, hN]; exact I.loc, by rw [he]; exact I.cell, by rw [he]; exact I.free, by rw [he]; exact I.freeC,
    fun q hq => by rw [he]; show _ ∧ _ ∧ _ ∧ q.1 ∉ frs Y.outer ∧ _; rw [ho]; exact I.pin q (hp q hq), by rw [hP, hw]; exact I.hok, by rw [hN]; exact I.len⟩
theorem passT {X : Cx} {pn : List (Addr × Obj)} {E : XK} (hex : X.ex = []) : Passes (CXE X.prog X.w) (X.bod pn E) E := by
  intro pins σ H s e s' I h
  obtain ⟨p, C, dx, H', rfl, os, bare, un, hok, B, hE⟩ := h
  have I2 := I.call' os un hok bare fun b z => nomatch z
  refine ⟨σ, H', p, C, dx, rfl, I2.to (Y := { X with pn := pn, xe := fun _ _ => False }) (I2.ok.wish _) rfl rfl rfl rfl rfl rfl rfl rfl (fun q hq => ?_), B.mono fun b z => ?_, hE⟩
  · rw [List.append_nil] at hq
    exact List.mem_append_left _ hq
  · rcases z with ⟨o, z⟩ | ⟨q, hq, rfl⟩
    · exact I.base.there b o z (by show b ∉ X.ex; rw [hex]; exact fun z => nomatch z)
    · exact ⟨_, (I.pin q (List.mem_append_left _ hq)).1⟩
def tTry (tb : XK → TS) (ts : TS) (i : Nat) (C1 C2 : Addr) : TS := fun D σ H => tb (fun c d H' => ∃ C dx, c = .ref C ∧ d = some dx ∧ (C = C1 ∨ C = C2) ∧ ∀ (p tup : Addr) (σ' : St), H' p = none → H' tup = none → tup ≠ p → i < σ'.length →
  ts { nx := fun _ _ => False, rt := D.rt } (σ'.set i (some (.ref p))) (upd (upd H' tup (.tup [.ref C1, .ref C2])) p (xq p C dx))) D σ H
theorem ps_try {X : Cx} {body suite : List Stmt} {b0 : Stmt} {tb : XK → TS} {ts : TS} {i kk : Nat} {n x1 x2 fl : Str} {C1 C2 f1 f2 : Addr} {p1 p2 tpos hpos pos : Pos} (hex : X.ex = []) (hN : X.N.Nodup) (hi : X.N[i]? = some n) (hn : X.env.scope.names.lookup n = some .local)
    (hstk : X.stack = X.env :: X.outer) (hfrm : X.env.frame = some X.env.locals)
    (hb : ∀ pn E, PSs (X.bod pn E) body (tb E)) (g1 : Gl X x1) (m1 : X.mg x1 = some (.ref C1)) (g2 : Gl X x2) (m2 : X.mg x2 = some (.ref C2)) (c1 : XCl X.K C1 f1 fl) (c2 : XCl X.K C2 f2 fl)
    (hs : ∀ pn e, PSs (X.han pn e) (b0 :: suite) ts) (hd1 : (x1 == ("__debug__" : Str)) = false := by decide) (hd2 : (x2 == ("__debug__" : Str)) = false := by decide)
    (st1 : ∀ e, starEach [.Name x1 p1, .Name x2 p2] (X.han [] e).env = [(false, eval (.Name x1 p1) (X.han [] e).env), (false, eval (.Name x2 p2) (X.han [] e).env)] := by intro _; rfl) :
    PS X (.Try body [.ExceptHandler (some (.Tuple [.Name x1 p1, .Name x2 p2] kk tpos)) (some n) (b0 :: suite) hpos] [] [] pos) (tTry tb ts i C1 C2) := by
  intro pins s σ H D I h
  have hcls : (X.env.scope.kind == .class || (X.env.scope.kind == .module && X.env.locals != X.env.globals)) = false := by rw [I.ok.kind]; rfl
  have okB : ∀ E : Value → Shared → Prop, Cx.Ok { X with pn := X.pn ++ pins, xe := E } := fun E =>
    ⟨I.ok.mod, I.ok.kind, I.ok.glob, I.ok.blt, I.ok.above, I.ok.inj, I.ok.has, I.ok.cab, I.ok.hd, I.ok.frames, I.ok.stk, I.ok.exf, I.ok.bs, I.ok.bsz, I.ok.noex, I.ok.exfs, I.ok.funs, I.ok.frf⟩
  have okH : ∀ e, Cx.Ok (X.han (X.pn ++ pins) e) := fun e =>
    ⟨I.ok.mod, I.ok.kind, I.ok.glob, I.ok.blt, I.ok.above, I.ok.inj, I.ok.has, I.ok.cab, fun z => Bool.noConfusion z, I.ok.frames, I.ok.stk, I.ok.exf, I.ok.bs, I.ok.bsz, I.ok.noex, I.ok.exfs, I.ok.funs, I.ok.frf⟩
  have back : ∀ {E : Value → Shared → Prop} {σ' : St} {H' : Hp} {s' : Shared}, Inv { X with pn := X.pn ++ pins, xe := E } [] σ' H' s' → Inv X pins σ' H' s' := fun J =>
    J.to I.ok rfl rfl rfl rfl rfl rfl rfl rfl fun q hq => by rw [List.append_nil]; exact hq
  refine wpAny_Try_except (wpAny_mono (hb (X.pn ++ pins) _ [] s σ H D (I.to (okB _) rfl rfl rfl rfl rfl rfl rfl rfl fun q hq => by rw [List.append_nil] at hq; exact hq) h) (fun f s1 q => ?_) fun e s1 q => ?_)
  · cases f with
    | next =>
      obtain ⟨σ', H', J, q⟩ := q
      exact wpAny_execs_nil ⟨σ', H', back J, q⟩
    | brk =>
      obtain ⟨σ', H', J, q⟩ := q
      exact ⟨σ', H', back J, q⟩
    | cont =>
      obtain ⟨σ', H', J, q⟩ := q
      exact ⟨σ', H', back J, q⟩
    | ret u =>
      obtain ⟨v, σ', H', J, r, q⟩ := q
      exact ⟨v, σ', H', back J, r, q⟩
  · obtain ⟨σ1, H1, p, C, dx, rfl, J, B, C', dx', ec, ed, hC, hk⟩ := q
    cases ec
    cases ed
    obtain ⟨vs, hv, hh, np, nt, hp⟩ := B
    have hstack := J.stack
    have hstack' : s1.heap.FunFrames X.base (X.env :: X.outer) := by rw [← hstk]; exact hstack
    refine XX.note_any (base := X.base) (L := X.env.locals) (outer := X.outer) (by rw [I.ok.frames, hstk]) hstack' hfrm hv rfl hh fun h' T Pa => ?_
    have Pa' : XX.Past X.stack p ⟨.ref C, some dx, .fields vs, #[]⟩ vs (fun b => vs[1]? = some (.ref b)) s1.heap h' T := by rw [hstk]; exact Pa
    have J2 := J.past (old := fun b => inH X.s_0.heap b ∨ ∃ q ∈ X.pn ++ pins, q.1 = b) hv hh np nt hp Pa' (fun b z => .inl z) fun q hq => .inr ⟨q, by rw [List.append_nil] at hq; exact hq, rfl⟩
    have B2 : Abo (fun b => inH X.s_0.heap b ∨ ∃ q ∈ X.pn ++ pins, q.1 = b) H1 h' p C dx := Abo.past hv hh np hp Pa' (fun b z => by
      rcases z with ⟨o, z⟩ | ⟨q, hq, rfl⟩
      · exact Nat.lt_of_lt_of_le (Heap.lt_size z) J.sz
      · exact Heap.lt_size (J.pin q (by rw [List.append_nil]; exact hq)).1) (J.hok.fresh Pa.new)
    obtain ⟨ws, hw, hhw, np2, nt2, hp2⟩ := B2
    obtain ⟨T2, oT, ts2, eT, nTp, hT, hdT, h3⟩ : ∃ T2 oT ts2, ws[1]? = some (.ref T2) ∧ T2 ≠ p ∧ h'.get? T2 = some oT ∧ oT.data = .fields ts2 ∧ ts2[3]? = some .none := by
      rcases hhw with z | z
      · exfalso
        have hsz : 1 < vs.size := by
          rcases hh with y | ⟨_, _, _, y, _⟩ <;> exact (Array.getElem?_eq_some_iff.mp y).1
        have e1 := Pa.exc
        rw [hw] at e1
        have e2 : ws = vs.setIfInBounds 1 (.ref T) := by injection e1 with e1; injection e1 with _ _ e1 _; injection e1
        rw [e2, Array.getElem?_setIfInBounds_self] at z
        simp [hsz] at z
      · exact z
    obtain ⟨nT2, hT2n⟩ := nt2 T2 eT
    have rp := J2.recd hw rfl
    have rT := J2.recd hT hdT
    have nfs : ∀ b, b ∉ frs X.stack → b ∉ frs X.outer := fun b z y => z (by
      rw [hstk]
      unfold frs at y ⊢
      rw [List.filterMap_cons, hfrm]
      exact List.mem_cons_of_mem _ y)
    have J4 : Inv (X.han (X.pn ++ pins) (.ref p)) [(p, ⟨.ref C, some dx, .fields ws, #[]⟩), (T2, oT)] σ1 H1 { s1 with heap := h' } := by
      have J3 : Inv (X.han (X.pn ++ pins) (.ref p)) [] σ1 H1 { s1 with heap := h' } := J2.to (okH _) rfl rfl rfl rfl rfl rfl rfl rfl fun q hq => hq
      refine J3.pins_of fun q hq => ?_
      rcases List.mem_cons.mp hq with rfl | hq
      · exact ⟨hw, hp2, rp.1, nfs _ rp.2.2, fun v z => by cases z⟩
      · rcases List.mem_cons.mp hq with rfl | hq
        · exact ⟨hT, hT2n, rT.1, nfs _ rT.2.2, fun v z => by rw [hdT] at z; cases z⟩
        · exact nomatch hq
    refine wpAny_handleBy_cons (codeAny_handlers_test ?_) (by intro q; cases q)
    refine thnF (pe_tup (X := X.han (X.pn ++ pins) (.ref p)) (pa_cons (pe_glob (v := .ref C1) g1 m1 rfl hd1) (pa_cons (pe_glob (v := .ref C2) g2 m2 rfl hd2) pa_nil)) _ _ σ1 H1 (fun v Hn => ∃ tup, v = .ref tup ∧ H1 tup = none ∧ Hn = upd H1 tup (.tup [.ref C1, .ref C2])) J4
      ⟨by show 2 ≤ sizeLine; decide, fun tup ht => ⟨tup, rfl, ht, rfl⟩⟩) fun cv s3 ⟨v, H3, J5, rv, tup, ev, ht, eH⟩ => ?_
    subst ev
    subst eH
    obtain rfl : cv = Value.ref tup := rv
    obtain ⟨its, vi, it, _⟩ := J5.tuple (SqT.of (K := X.K) upd_same)
    have ei : its = [Value.ref C1, Value.ref C2] := by
      cases vi with
      | cons r1 v1 =>
        cases v1 with
        | cons r2 v2 =>
          cases v2
          rw [show _ = Value.ref C1 from r1, show _ = Value.ref C2 from r2]
    subst ei
    obtain ⟨hw3, hp3, _, _, _⟩ := J5.pin (p, ⟨.ref C, some dx, .fields ws, #[]⟩) (by simp)
    obtain ⟨hT3, hTn3, _, _, _⟩ := J5.pin (T2, oT) (by simp)
    have cC : XX.XCls s3.heap C := by
      rcases hC with z | z
      · rw [z]; exact c1.cls J5.kIn
      · rw [z]; exact c2.cls J5.kIn
    refine XX.matches2 it cC (c1.cls J5.kIn) (c2.cls J5.kIn) hw3 rfl hC ?_
    show codeAny _ _ _ _ _
    refine codeAny_handlers_suite_as ?_
    refine XX.flight_none hw3 rfl (.inr ⟨T2, oT, ts2, eT, nTp, hT3, hdT, h3⟩) fun h4 _ hk4 hth4 hh4 => ?_
    have J6 : Inv (X.han (X.pn ++ pins) (.ref p)) [] σ1 (upd H1 tup (.tup [.ref C1, .ref C2])) s3 := J5.pins_of fun q hq => nomatch hq
    have rT6 := J6.recd hT3 hdT
    have rp6 := J6.recd hw3 rfl
    have J7 : Inv (X.han (X.pn ++ pins) (.ref p)) [] σ1 (upd H1 tup (.tup [.ref C1, .ref C2])) { s3 with heap := h4 } := by
      refine J6.poke (t' := s3.toks) (Z := fun b => b = T2) (fun b z => ?_) (fun b o e _ nz => hk4 b o e fun z => nz ?_) (fun b o e hb => ⟨o.slots, hk4 b o e fun z => ?_⟩) hth4
      · subst z
        exact ⟨fun z => nT2 (.inl z), hTn3, rT6.1, rT6.2.1, fun q hq z => nT2 (.inr ⟨q, by rw [List.append_nil] at hq; exact hq, z⟩)⟩
      · rw [eT] at z; cases z; rfl
      · rw [eT] at z; cases z; exact rT6.2.2 hb
    have ntp : tup ≠ p := fun z => by rw [z, upd_same] at hp3; cases hp3
    have hw7 : h4.get? p = some ⟨.ref C, some dx, .fields ws, #[]⟩ := hk4 p _ hw3 fun z => by rw [eT] at z; cases z; exact nTp rfl
    have J8 : Inv (X.han (X.pn ++ pins) (.ref p)) [] σ1 (upd (upd H1 tup (.tup [.ref C1, .ref C2])) p (xq p C dx)) { s3 with heap := h4 } :=
      J7.track (fun z => np2 (.inl z)) hp3 rp6.1 rp6.2.1 (fun q hq z => np2 (.inr ⟨q, by rw [List.append_nil] at hq; exact hq, z⟩)) ⟨⟨ws, hw7⟩, ⟨_, hw7⟩, fun h1 h2 ⟨us, e⟩ k2 => ⟨us, k2 _ e⟩⟩
    refine store_ok (X := X.han (X.pn ++ pins) (.ref p)) (v := .ref p) J8 hN hi (.inl hn) rfl (fun s5 J9 => ?_) (.inr hn)
    have hlen : i < σ1.length := by
      rw [J.len]
      exact (List.getElem?_eq_some_iff.mp hi).1
    refine wpAny_mono (hs (X.pn ++ pins) (.ref p) [] s5 _ _ _ J9 (hk p tup σ1 hp2 ht ntp hlen)) (fun f s6 q6 => ?_) fun _ _ z => z.elim
    cases f with
    | next => obtain ⟨_, _, _, z⟩ := q6; exact z.elim
    | brk => obtain ⟨_, _, _, z⟩ := q6; exact z.elim
    | cont => obtain ⟨_, _, _, z⟩ := q6; exact z.elim
    | ret u =>
      obtain ⟨v, σ6, H6, J10, rv, q⟩ := q6
      obtain ⟨m, hm, _⟩ := J10.loc
      refine wpAny_nameGoes hn hm hcls fun h7 m7 hn7 hs7 => ?_
      have J11 : Inv X pins σ6 H6 s6 := J10.to I.ok rfl rfl rfl rfl rfl rfl rfl rfl fun q hq => by rw [List.append_nil]; exact hq
      exact ⟨v, _, H6, J11.reloc (t' := s6.toks + 1) hs7 hn7, rv, q⟩
end L2

set_option Elab.async false
set_option linter.all false
set_option maxRecDepth 100000
set_option maxHeartbeats 2000000
namespace Ab
open PySem PySem.Spec PyProof.Rows L2
def top (i : Nat) : Stmt := PySem.Challenge.pw_abacusmark_s03_mark.main.body.getD i (.Pass ⟨0, 0, 0, 0⟩)
abbrev s_initDec : Stmt := inClass (top 1) 0
abbrev s_negated : Stmt := inClass (top 1) 1
abbrev s_tenTo : Stmt := top 2
abbrev s_nearest : Stmt := top 3
abbrev s_wholeRoot : Stmt := top 4
abbrev s_nearestRoot : Stmt := top 5
abbrev s_initTL : Stmt := inClass (top 7) 0
abbrev s_initFa : Stmt := inClass (top 8) 0
abbrev s_reaches : Stmt := top 16
abbrev s_initRd : Stmt := inClass (top 17) 0
abbrev s_isDone : Stmt := inClass (top 17) 1
abbrev s_peek : Stmt := inClass (top 17) 2
abbrev s_peekDigit : Stmt := inClass (top 17) 3
abbrev s_skip : Stmt := inClass (top 17) 4
abbrev s_readWords : Stmt := inClass (top 17) 5
abbrev s_readBounded : Stmt := inClass (top 17) 6
abbrev s_readWhole : Stmt := inClass (top 17) 7
abbrev s_readDecimal : Stmt := inClass (top 17) 8
abbrev s_readUnsigned : Stmt := inClass (top 17) 9
abbrev s_readTail : Stmt := inClass (top 17) 10
abbrev s_initAn : Stmt := inClass (top 23) 0
abbrev s_readNumber : Stmt := top 24
abbrev s_readAnswers : Stmt := top 25
abbrev s_initPr : Stmt := inClass (top 31) 0
abbrev s_readKind : Stmt := top 32
abbrev s_readRows : Stmt := top 33
abbrev s_readOperands : Stmt := top 34
abbrev s_readProblem : Stmt := top 35
abbrev s_readSheet : Stmt := top 36
abbrev s_rightProduct : Stmt := top 38
abbrev s_rightQuotient : Stmt := top 39
abbrev s_rightRoot : Stmt := top 40
abbrev s_rightAnswer : Stmt := top 41
abbrev s_areRules : Stmt := top 50
abbrev s_markOf : Stmt := top 51
abbrev s_marksOf : Stmt := top 52
abbrev s_areAllRight : Stmt := top 53
abbrev s_pointsOfMarks : Stmt := top 54
abbrev s_pointsInTime : Stmt := top 55
abbrev s_checkLength : Stmt := top 58
abbrev s_mark : Stmt := top 59
structure Ad where
  cDec : Addr
  cTL : Addr
  cFa : Addr
  cRd : Addr
  cAn : Addr
  cPr : Addr
  f_initDec : Addr
  f_negated : Addr
  f_tenTo : Addr
  f_nearest : Addr
  f_wholeRoot : Addr
  f_nearestRoot : Addr
  f_initTL : Addr
  f_initFa : Addr
  f_reaches : Addr
  f_initRd : Addr
  f_isDone : Addr
  f_peek : Addr
  f_peekDigit : Addr
  f_skip : Addr
  f_readWords : Addr
  f_readBounded : Addr
  f_readWhole : Addr
  f_readDecimal : Addr
  f_readUnsigned : Addr
  f_readTail : Addr
  f_initAn : Addr
  f_readNumber : Addr
  f_readAnswers : Addr
  f_initPr : Addr
  f_readKind : Addr
  f_readRows : Addr
  f_readOperands : Addr
  f_readProblem : Addr
  f_readSheet : Addr
  f_rightProduct : Addr
  f_rightQuotient : Addr
  f_rightRoot : Addr
  f_rightAnswer : Addr
  f_areRules : Addr
  f_markOf : Addr
  f_marksOf : Addr
  f_areAllRight : Addr
  f_pointsOfMarks : Addr
  f_pointsInTime : Addr
  f_checkLength : Addr
  f_mark : Addr
  d_KIND_BY_BYTE : Addr
structure Df (K : PySem.W.Frag) (x qual : Str) (st : Stmt) (f : Addr) (ps : List Str) : Prop where
  ex : ∃ fd, Fun K x qual st f fd ∧ Binds K fd ps []
structure Pc (K : PySem.W.Frag) (mg : Str → Option Value) (C : Addr) (x : Str) (fI : Addr) (fs : List Str) : Prop where
  cl : Cls K C
  mak : Mk K C fI
  glo : mg x = some (.ref C)
  no : ∀ f ∈ fs, NoAttr K C f
structure Tx (K : PySem.W.Frag) (mg : Str → Option Value) (a : Ad) : Prop where
  initDec : Df K "__init__" "Decimal.__init__" s_initDec a.f_initDec ["self", "units", "scale"]
  negated : Df K "negated" "Decimal.negated" s_negated a.f_negated ["self"]
  tenTo : Df K "ten_to" "ten_to" s_tenTo a.f_tenTo ["count"]
  nearest : Df K "nearest" "nearest" s_nearest a.f_nearest ["top", "bottom"]
  wholeRoot : Df K "whole_root" "whole_root" s_wholeRoot a.f_wholeRoot ["number"]
  nearestRoot : Df K "nearest_root" "nearest_root" s_nearestRoot a.f_nearestRoot ["top", "bottom"]
  initTL : Df K "__init__" "TooLong.__init__" s_initTL a.f_initTL ["self"]
  initFa : Df K "__init__" "Fault.__init__" s_initFa a.f_initFa ["self", "rule", "place"]
  reaches : Df K "reaches" "reaches" s_reaches a.f_reaches ["value", "low", "high"]
  initRd : Df K "__init__" "Reader.__init__" s_initRd a.f_initRd ["self", "text", "rule"]
  isDone : Df K "is_done" "Reader.is_done" s_isDone a.f_isDone ["self"]
  peek : Df K "peek" "Reader.peek" s_peek a.f_peek ["self"]
  peekDigit : Df K "peek_digit" "Reader.peek_digit" s_peekDigit a.f_peekDigit ["self"]
  skip : Df K "skip" "Reader.skip" s_skip a.f_skip ["self", "byte"]
  readWords : Df K "read_words" "Reader.read_words" s_readWords a.f_readWords ["self", "words"]
  readBounded : Df K "read_bounded" "Reader.read_bounded" s_readBounded a.f_readBounded ["self", "low", "high"]
  readWhole : Df K "read_whole" "Reader.read_whole" s_readWhole a.f_readWhole ["self"]
  readDecimal : Df K "read_decimal" "Reader.read_decimal" s_readDecimal a.f_readDecimal ["self", "may_be_below", "may_be_nought"]
  readUnsigned : Df K "read_unsigned" "Reader.read_unsigned" s_readUnsigned a.f_readUnsigned ["self", "most_whole", "may_be_nought"]
  readTail : Df K "read_tail" "Reader.read_tail" s_readTail a.f_readTail ["self", "number", "may_be_nought"]
  initAn : Df K "__init__" "Answers.__init__" s_initAn a.f_initAn ["self", "seconds", "numbers"]
  readNumber : Df K "read_number" "read_number" s_readNumber a.f_readNumber ["reader"]
  readAnswers : Df K "read_answers" "read_answers" s_readAnswers a.f_readAnswers ["text"]
  initPr : Df K "__init__" "Problem.__init__" s_initPr a.f_initPr ["self", "points", "kind", "numbers", "places"]
  readKind : Df K "read_kind" "read_kind" s_readKind a.f_readKind ["reader"]
  readRows : Df K "read_rows" "read_rows" s_readRows a.f_readRows ["reader"]
  readOperands : Df K "read_operands" "read_operands" s_readOperands a.f_readOperands ["reader", "kind"]
  readProblem : Df K "read_problem" "read_problem" s_readProblem a.f_readProblem ["reader"]
  readSheet : Df K "read_sheet" "read_sheet" s_readSheet a.f_readSheet ["text"]
  rightProduct : Df K "right_product" "right_product" s_rightProduct a.f_rightProduct ["first", "second", "unit"]
  rightQuotient : Df K "right_quotient" "right_quotient" s_rightQuotient a.f_rightQuotient ["first", "second", "unit"]
  rightRoot : Df K "right_root" "right_root" s_rightRoot a.f_rightRoot ["number", "unit"]
  rightAnswer : Df K "right_answer" "right_answer" s_rightAnswer a.f_rightAnswer ["problem"]
  areRules : Df K "are_rules" "are_rules" s_areRules a.f_areRules ["limit", "minus", "bonus"]
  markOf : Df K "mark_of" "mark_of" s_markOf a.f_markOf ["problem", "number"]
  marksOf : Df K "marks_of" "marks_of" s_marksOf a.f_marksOf ["problems", "numbers"]
  areAllRight : Df K "are_all_right" "are_all_right" s_areAllRight a.f_areAllRight ["marks"]
  pointsOfMarks : Df K "points_of_marks" "points_of_marks" s_pointsOfMarks a.f_pointsOfMarks ["problems", "marks", "minus"]
  pointsInTime : Df K "points_in_time" "points_in_time" s_pointsInTime a.f_pointsInTime ["points", "marks", "seconds", "limit", "bonus"]
  checkLength : Df K "check_length" "check_length" s_checkLength a.f_checkLength ["text"]
  mark : Df K "mark" "mark" s_mark a.f_mark ["limit", "minus", "bonus", "sheet", "answers"]
  pDec : Pc K mg a.cDec "Decimal" a.f_initDec ["units", "scale"]
  m_negated : Meth K a.cDec "negated" a.f_negated
  xTL : XCl K a.cTL a.f_initTL "answered"
  gTL : mg "TooLong" = some (.ref a.cTL)
  xFa : XCl K a.cFa a.f_initFa "answered"
  gFa : mg "Fault" = some (.ref a.cFa)
  pRd : Pc K mg a.cRd "Reader" a.f_initRd ["text", "rule", "at"]
  m_isDone : Meth K a.cRd "is_done" a.f_isDone
  m_peek : Meth K a.cRd "peek" a.f_peek
  m_peekDigit : Meth K a.cRd "peek_digit" a.f_peekDigit
  m_skip : Meth K a.cRd "skip" a.f_skip
  m_readWords : Meth K a.cRd "read_words" a.f_readWords
  m_readBounded : Meth K a.cRd "read_bounded" a.f_readBounded
  m_readWhole : Meth K a.cRd "read_whole" a.f_readWhole
  m_readDecimal : Meth K a.cRd "read_decimal" a.f_readDecimal
  m_readUnsigned : Meth K a.cRd "read_unsigned" a.f_readUnsigned
  m_readTail : Meth K a.cRd "read_tail" a.f_readTail
  pAn : Pc K mg a.cAn "Answers" a.f_initAn ["seconds", "numbers"]
  pPr : Pc K mg a.cPr "Problem" a.f_initPr ["points", "kind", "numbers", "places"]
  g_tenTo : mg "ten_to" = some (.ref a.f_tenTo)
  g_nearest : mg "nearest" = some (.ref a.f_nearest)
  g_wholeRoot : mg "whole_root" = some (.ref a.f_wholeRoot)
  g_nearestRoot : mg "nearest_root" = some (.ref a.f_nearestRoot)
  g_reaches : mg "reaches" = some (.ref a.f_reaches)
  g_readNumber : mg "read_number" = some (.ref a.f_readNumber)
  g_readAnswers : mg "read_answers" = some (.ref a.f_readAnswers)
  g_readKind : mg "read_kind" = some (.ref a.f_readKind)
  g_readRows : mg "read_rows" = some (.ref a.f_readRows)
  g_readOperands : mg "read_operands" = some (.ref a.f_readOperands)
  g_readProblem : mg "read_problem" = some (.ref a.f_readProblem)
  g_readSheet : mg "read_sheet" = some (.ref a.f_readSheet)
  g_rightProduct : mg "right_product" = some (.ref a.f_rightProduct)
  g_rightQuotient : mg "right_quotient" = some (.ref a.f_rightQuotient)
  g_rightRoot : mg "right_root" = some (.ref a.f_rightRoot)
  g_rightAnswer : mg "right_answer" = some (.ref a.f_rightAnswer)
  g_areRules : mg "are_rules" = some (.ref a.f_areRules)
  g_markOf : mg "mark_of" = some (.ref a.f_markOf)
  g_marksOf : mg "marks_of" = some (.ref a.f_marksOf)
  g_areAllRight : mg "are_all_right" = some (.ref a.f_areAllRight)
  g_pointsOfMarks : mg "points_of_marks" = some (.ref a.f_pointsOfMarks)
  g_pointsInTime : mg "points_in_time" = some (.ref a.f_pointsInTime)
  g_checkLength : mg "check_length" = some (.ref a.f_checkLength)
  g_mark : mg "mark" = some (.ref a.f_mark)
  k_MINUS : ∃ t, mg "MINUS" = some (.int 45 t)
  k_POINT : ∃ t, mg "POINT" = some (.int 46 t)
  k_NOUGHT : ∃ t, mg "NOUGHT" = some (.int 48 t)
  k_NINE : ∃ t, mg "NINE" = some (.int 57 t)
  k_MOST_WHOLE : ∃ t, mg "MOST_WHOLE" = some (.int 999999999999999999 t)
  k_MOST_SCALE : ∃ t, mg "MOST_SCALE" = some (.int 1000000000 t)
  k_ANSWERS_RULE : ∃ t, mg "ANSWERS_RULE" = some (.int 13 t)
  k_LINE_FEED : ∃ t, mg "LINE_FEED" = some (.int 10 t)
  k_MOST_SECONDS : ∃ t, mg "MOST_SECONDS" = some (.int 99999 t)
  k_MOST_ANSWER : ∃ t, mg "MOST_ANSWER" = some (.int 9999999999999999999999999999999999999999 t)
  k_SHEET_RULE : ∃ t, mg "SHEET_RULE" = some (.int 12 t)
  k_FEWEST_ROWS : ∃ t, mg "FEWEST_ROWS" = some (.int 2 t)
  k_MOST_ROWS : ∃ t, mg "MOST_ROWS" = some (.int 64 t)
  k_LEFT_OUT : ∃ t, mg "LEFT_OUT" = some (.int 0 t)
  k_RIGHT : ∃ t, mg "RIGHT" = some (.int 1 t)
  k_WRONG : ∃ t, mg "WRONG" = some (.int 2 t)
  k_MOST_LIMIT : ∃ t, mg "MOST_LIMIT" = some (.int 99999 t)
  k_MOST_MINUS : ∃ t, mg "MOST_MINUS" = some (.int 9999 t)
  k_MOST_BONUS : ∃ t, mg "MOST_BONUS" = some (.int 9999 t)
  k_MINUTE : ∃ t, mg "MINUTE" = some (.int 60 t)
  k_MOST_BYTES : ∃ t, mg "MOST_BYTES" = some (.int 16384 t)
  k_KIND_BY_BYTE : mg "KIND_BY_BYTE" = some (.ref a.d_KIND_BY_BYTE)
  o_KIND_BY_BYTE : ∃ ep t0 u0 t1 u1 t2 u2 t3 u3, K.lookup a.d_KIND_BY_BYTE = some ⟨.type "dict", none, .dict #[⟨115, .int 115 t0, .str "sum" u0⟩, ⟨112, .int 112 t1, .str "product" u1⟩, ⟨113, .int 113 t2, .str "quotient" u2⟩, ⟨114, .int 114 t3, .str "root" u3⟩] ep, #[]⟩
  y_KIND_BY_BYTE : (a.d_KIND_BY_BYTE == sysModules) = false
  b_range : mg "range" = none
  b_abs : mg "abs" = none
  b_len : mg "len" = none
  b_ord : mg "ord" = none
  b_sum : mg "sum" = none
  b_zip : mg "zip" = none
  b_max : mg "max" = none
theorem low_answered : typeLookup (.type "Exception") "answered" = pure none := by rw [typeLookup_type, builtinLookup_eq_fast]; kernel_rfl
theorem nsOk_of {K : PySem.W.Frag} {N : Addr} {c : Value} {d : Option Addr} {es : Array DictEntry} {p : Nat} {z : Array (Option Value)} (l : K.lookup N = some ⟨c, d, .dict es p, z⟩) (h : (es.toList.all fun e => match e.key with | .str _ _ => true | _ => false) = true) : PySem.W.nsOkIn K N = true := by
  unfold PySem.W.nsOkIn
  rw [l]
  rw [Array.all_toList] at h
  exact h
theorem tx_mk {K : PySem.W.Frag} {h : Heap} {mg : Str → Option Value} (X : K.In h) (G : h.Ns mainGlobals mg) {cDec cTL cFa cRd cAn cPr f_initDec f_negated f_tenTo f_nearest f_wholeRoot f_nearestRoot f_initTL f_initFa f_reaches f_initRd f_isDone f_peek f_peekDigit f_skip f_readWords f_readBounded f_readWhole f_readDecimal f_readUnsigned f_readTail f_initAn f_readNumber f_readAnswers f_initPr f_readKind f_readRows f_readOperands f_readProblem f_readSheet f_rightProduct f_rightQuotient f_rightRoot f_rightAnswer f_areRules f_markOf f_marksOf f_areAllRight f_pointsOfMarks f_pointsInTime f_checkLength f_mark d_KIND_BY_BYTE : Addr}
    {nmTL qTL : Str} {NTL : Addr} {bsTL subTL : List Value} {snTL : List Str} {abTL : Bool} {colTL : Option Bool} {ddTL : Option Addr} {k0TL k1TL k2TL k3TL k5TL : Option Value}
    {cNTL : Value} {dNTL : Option Addr} {eNTL : Array DictEntry} {pNTL : Nat} {zNTL : Array (Option Value)}
    {nmFa qFa : Str} {NFa : Addr} {bsFa subFa : List Value} {snFa : List Str} {abFa : Bool} {colFa : Option Bool} {ddFa : Option Addr} {k0Fa k1Fa k2Fa k3Fa k5Fa : Option Value}
    {cNFa : Value} {dNFa : Option Addr} {eNFa : Array DictEntry} {pNFa : Nat} {zNFa : Array (Option Value)}
    {od_initDec an_initDec : Option Addr} {sl_initDec : Array (Option Value)} {oc_initDec kV_initDec dc_initDec pm_initDec cd_initDec ct_initDec : Value}
    {od_negated an_negated : Option Addr} {sl_negated : Array (Option Value)} {oc_negated kV_negated dc_negated pm_negated cd_negated ct_negated : Value}
    {od_tenTo an_tenTo : Option Addr} {sl_tenTo : Array (Option Value)} {oc_tenTo kV_tenTo dc_tenTo pm_tenTo cd_tenTo ct_tenTo : Value}
    {od_nearest an_nearest : Option Addr} {sl_nearest : Array (Option Value)} {oc_nearest kV_nearest dc_nearest pm_nearest cd_nearest ct_nearest : Value}
    {od_wholeRoot an_wholeRoot : Option Addr} {sl_wholeRoot : Array (Option Value)} {oc_wholeRoot kV_wholeRoot dc_wholeRoot pm_wholeRoot cd_wholeRoot ct_wholeRoot : Value}
    {od_nearestRoot an_nearestRoot : Option Addr} {sl_nearestRoot : Array (Option Value)} {oc_nearestRoot kV_nearestRoot dc_nearestRoot pm_nearestRoot cd_nearestRoot ct_nearestRoot : Value}
    {od_initTL an_initTL : Option Addr} {sl_initTL : Array (Option Value)} {kV_initTL dc_initTL pm_initTL cd_initTL ct_initTL : Value}
    {od_initFa an_initFa : Option Addr} {sl_initFa : Array (Option Value)} {kV_initFa dc_initFa pm_initFa cd_initFa ct_initFa : Value}
    {od_reaches an_reaches : Option Addr} {sl_reaches : Array (Option Value)} {oc_reaches kV_reaches dc_reaches pm_reaches cd_reaches ct_reaches : Value}
    {od_initRd an_initRd : Option Addr} {sl_initRd : Array (Option Value)} {oc_initRd kV_initRd dc_initRd pm_initRd cd_initRd ct_initRd : Value}
    {od_isDone an_isDone : Option Addr} {sl_isDone : Array (Option Value)} {oc_isDone kV_isDone dc_isDone pm_isDone cd_isDone ct_isDone : Value}
    {od_peek an_peek : Option Addr} {sl_peek : Array (Option Value)} {oc_peek kV_peek dc_peek pm_peek cd_peek ct_peek : Value}
    {od_peekDigit an_peekDigit : Option Addr} {sl_peekDigit : Array (Option Value)} {oc_peekDigit kV_peekDigit dc_peekDigit pm_peekDigit cd_peekDigit ct_peekDigit : Value}
    {od_skip an_skip : Option Addr} {sl_skip : Array (Option Value)} {oc_skip kV_skip dc_skip pm_skip cd_skip ct_skip : Value}
    {od_readWords an_readWords : Option Addr} {sl_readWords : Array (Option Value)} {oc_readWords kV_readWords dc_readWords pm_readWords cd_readWords ct_readWords : Value}
    {od_readBounded an_readBounded : Option Addr} {sl_readBounded : Array (Option Value)} {oc_readBounded kV_readBounded dc_readBounded pm_readBounded cd_readBounded ct_readBounded : Value}
    {od_readWhole an_readWhole : Option Addr} {sl_readWhole : Array (Option Value)} {oc_readWhole kV_readWhole dc_readWhole pm_readWhole cd_readWhole ct_readWhole : Value}
    {od_readDecimal an_readDecimal : Option Addr} {sl_readDecimal : Array (Option Value)} {oc_readDecimal kV_readDecimal dc_readDecimal pm_readDecimal cd_readDecimal ct_readDecimal : Value}
    {od_readUnsigned an_readUnsigned : Option Addr} {sl_readUnsigned : Array (Option Value)} {oc_readUnsigned kV_readUnsigned dc_readUnsigned pm_readUnsigned cd_readUnsigned ct_readUnsigned : Value}
    {od_readTail an_readTail : Option Addr} {sl_readTail : Array (Option Value)} {oc_readTail kV_readTail dc_readTail pm_readTail cd_readTail ct_readTail : Value}
    {od_initAn an_initAn : Option Addr} {sl_initAn : Array (Option Value)} {oc_initAn kV_initAn dc_initAn pm_initAn cd_initAn ct_initAn : Value}
    {od_readNumber an_readNumber : Option Addr} {sl_readNumber : Array (Option Value)} {oc_readNumber kV_readNumber dc_readNumber pm_readNumber cd_readNumber ct_readNumber : Value}
    {od_readAnswers an_readAnswers : Option Addr} {sl_readAnswers : Array (Option Value)} {oc_readAnswers kV_readAnswers dc_readAnswers pm_readAnswers cd_readAnswers ct_readAnswers : Value}
    {od_initPr an_initPr : Option Addr} {sl_initPr : Array (Option Value)} {oc_initPr kV_initPr dc_initPr pm_initPr cd_initPr ct_initPr : Value}
    {od_readKind an_readKind : Option Addr} {sl_readKind : Array (Option Value)} {oc_readKind kV_readKind dc_readKind pm_readKind cd_readKind ct_readKind : Value}
    {od_readRows an_readRows : Option Addr} {sl_readRows : Array (Option Value)} {oc_readRows kV_readRows dc_readRows pm_readRows cd_readRows ct_readRows : Value}
    {od_readOperands an_readOperands : Option Addr} {sl_readOperands : Array (Option Value)} {oc_readOperands kV_readOperands dc_readOperands pm_readOperands cd_readOperands ct_readOperands : Value}
    {od_readProblem an_readProblem : Option Addr} {sl_readProblem : Array (Option Value)} {oc_readProblem kV_readProblem dc_readProblem pm_readProblem cd_readProblem ct_readProblem : Value}
    {od_readSheet an_readSheet : Option Addr} {sl_readSheet : Array (Option Value)} {oc_readSheet kV_readSheet dc_readSheet pm_readSheet cd_readSheet ct_readSheet : Value}
    {od_rightProduct an_rightProduct : Option Addr} {sl_rightProduct : Array (Option Value)} {oc_rightProduct kV_rightProduct dc_rightProduct pm_rightProduct cd_rightProduct ct_rightProduct : Value}
    {od_rightQuotient an_rightQuotient : Option Addr} {sl_rightQuotient : Array (Option Value)} {oc_rightQuotient kV_rightQuotient dc_rightQuotient pm_rightQuotient cd_rightQuotient ct_rightQuotient : Value}
    {od_rightRoot an_rightRoot : Option Addr} {sl_rightRoot : Array (Option Value)} {oc_rightRoot kV_rightRoot dc_rightRoot pm_rightRoot cd_rightRoot ct_rightRoot : Value}
    {od_rightAnswer an_rightAnswer : Option Addr} {sl_rightAnswer : Array (Option Value)} {oc_rightAnswer kV_rightAnswer dc_rightAnswer pm_rightAnswer cd_rightAnswer ct_rightAnswer : Value}
    {od_areRules an_areRules : Option Addr} {sl_areRules : Array (Option Value)} {oc_areRules kV_areRules dc_areRules pm_areRules cd_areRules ct_areRules : Value}
    {od_markOf an_markOf : Option Addr} {sl_markOf : Array (Option Value)} {oc_markOf kV_markOf dc_markOf pm_markOf cd_markOf ct_markOf : Value}
    {od_marksOf an_marksOf : Option Addr} {sl_marksOf : Array (Option Value)} {oc_marksOf kV_marksOf dc_marksOf pm_marksOf cd_marksOf ct_marksOf : Value}
    {od_areAllRight an_areAllRight : Option Addr} {sl_areAllRight : Array (Option Value)} {oc_areAllRight kV_areAllRight dc_areAllRight pm_areAllRight cd_areAllRight ct_areAllRight : Value}
    {od_pointsOfMarks an_pointsOfMarks : Option Addr} {sl_pointsOfMarks : Array (Option Value)} {oc_pointsOfMarks kV_pointsOfMarks dc_pointsOfMarks pm_pointsOfMarks cd_pointsOfMarks ct_pointsOfMarks : Value}
    {od_pointsInTime an_pointsInTime : Option Addr} {sl_pointsInTime : Array (Option Value)} {oc_pointsInTime kV_pointsInTime dc_pointsInTime pm_pointsInTime cd_pointsInTime ct_pointsInTime : Value}
    {od_checkLength an_checkLength : Option Addr} {sl_checkLength : Array (Option Value)} {oc_checkLength kV_checkLength dc_checkLength pm_checkLength cd_checkLength ct_checkLength : Value}
    {od_mark an_mark : Option Addr} {sl_mark : Array (Option Value)} {oc_mark kV_mark dc_mark pm_mark cd_mark ct_mark : Value}
    {t_MINUS : Tok}
    {t_POINT : Tok}
    {t_NOUGHT : Tok}
    {t_NINE : Tok}
    {t_MOST_WHOLE : Tok}
    {t_MOST_SCALE : Tok}
    {t_ANSWERS_RULE : Tok}
    {t_LINE_FEED : Tok}
    {t_MOST_SECONDS : Tok}
    {t_MOST_ANSWER : Tok}
    {t_SHEET_RULE : Tok}
    {t_FEWEST_ROWS : Tok}
    {t_MOST_ROWS : Tok}
    {t_LEFT_OUT : Tok}
    {t_RIGHT : Tok}
    {t_WRONG : Tok}
    {t_MOST_LIMIT : Tok}
    {t_MOST_MINUS : Tok}
    {t_MOST_BONUS : Tok}
    {t_MINUTE : Tok}
    {t_MOST_BYTES : Tok}
    {ep_KIND_BY_BYTE : Nat} {t0 u0 t1 u1 t2 u2 t3 u3 : Tok}
    (aCDec : PySem.W.nsIn K mainGlobals "Decimal" = some (some (.ref cDec)))
    (aCTL : PySem.W.nsIn K mainGlobals "TooLong" = some (some (.ref cTL)))
    (aCFa : PySem.W.nsIn K mainGlobals "Fault" = some (some (.ref cFa)))
    (aCRd : PySem.W.nsIn K mainGlobals "Reader" = some (some (.ref cRd)))
    (aCAn : PySem.W.nsIn K mainGlobals "Answers" = some (some (.ref cAn)))
    (aCPr : PySem.W.nsIn K mainGlobals "Problem" = some (some (.ref cPr)))
    (a_initDec : PySem.W.findIn K (.ref cDec) "__init__" = some (some (.ref f_initDec)))
    (i_initDec : PySem.W.isFn K (.ref f_initDec) = true)
    (a_negated : PySem.W.findIn K (.ref cDec) "negated" = some (some (.ref f_negated)))
    (i_negated : PySem.W.isFn K (.ref f_negated) = true)
    (a_tenTo : PySem.W.nsIn K mainGlobals "ten_to" = some (some (.ref f_tenTo)))
    (a_nearest : PySem.W.nsIn K mainGlobals "nearest" = some (some (.ref f_nearest)))
    (a_wholeRoot : PySem.W.nsIn K mainGlobals "whole_root" = some (some (.ref f_wholeRoot)))
    (a_nearestRoot : PySem.W.nsIn K mainGlobals "nearest_root" = some (some (.ref f_nearestRoot)))
    (a_reaches : PySem.W.nsIn K mainGlobals "reaches" = some (some (.ref f_reaches)))
    (a_initRd : PySem.W.findIn K (.ref cRd) "__init__" = some (some (.ref f_initRd)))
    (i_initRd : PySem.W.isFn K (.ref f_initRd) = true)
    (a_isDone : PySem.W.findIn K (.ref cRd) "is_done" = some (some (.ref f_isDone)))
    (i_isDone : PySem.W.isFn K (.ref f_isDone) = true)
    (a_peek : PySem.W.findIn K (.ref cRd) "peek" = some (some (.ref f_peek)))
    (i_peek : PySem.W.isFn K (.ref f_peek) = true)
    (a_peekDigit : PySem.W.findIn K (.ref cRd) "peek_digit" = some (some (.ref f_peekDigit)))
    (i_peekDigit : PySem.W.isFn K (.ref f_peekDigit) = true)
    (a_skip : PySem.W.findIn K (.ref cRd) "skip" = some (some (.ref f_skip)))
    (i_skip : PySem.W.isFn K (.ref f_skip) = true)
    (a_readWords : PySem.W.findIn K (.ref cRd) "read_words" = some (some (.ref f_readWords)))
    (i_readWords : PySem.W.isFn K (.ref f_readWords) = true)
    (a_readBounded : PySem.W.findIn K (.ref cRd) "read_bounded" = some (some (.ref f_readBounded)))
    (i_readBounded : PySem.W.isFn K (.ref f_readBounded) = true)
    (a_readWhole : PySem.W.findIn K (.ref cRd) "read_whole" = some (some (.ref f_readWhole)))
    (i_readWhole : PySem.W.isFn K (.ref f_readWhole) = true)
    (a_readDecimal : PySem.W.findIn K (.ref cRd) "read_decimal" = some (some (.ref f_readDecimal)))
    (i_readDecimal : PySem.W.isFn K (.ref f_readDecimal) = true)
    (a_readUnsigned : PySem.W.findIn K (.ref cRd) "read_unsigned" = some (some (.ref f_readUnsigned)))
    (i_readUnsigned : PySem.W.isFn K (.ref f_readUnsigned) = true)
    (a_readTail : PySem.W.findIn K (.ref cRd) "read_tail" = some (some (.ref f_readTail)))
    (i_readTail : PySem.W.isFn K (.ref f_readTail) = true)
    (a_initAn : PySem.W.findIn K (.ref cAn) "__init__" = some (some (.ref f_initAn)))
    (i_initAn : PySem.W.isFn K (.ref f_initAn) = true)
    (a_readNumber : PySem.W.nsIn K mainGlobals "read_number" = some (some (.ref f_readNumber)))
    (a_readAnswers : PySem.W.nsIn K mainGlobals "read_answers" = some (some (.ref f_readAnswers)))
    (a_initPr : PySem.W.findIn K (.ref cPr) "__init__" = some (some (.ref f_initPr)))
    (i_initPr : PySem.W.isFn K (.ref f_initPr) = true)
    (a_readKind : PySem.W.nsIn K mainGlobals "read_kind" = some (some (.ref f_readKind)))
    (a_readRows : PySem.W.nsIn K mainGlobals "read_rows" = some (some (.ref f_readRows)))
    (a_readOperands : PySem.W.nsIn K mainGlobals "read_operands" = some (some (.ref f_readOperands)))
    (a_readProblem : PySem.W.nsIn K mainGlobals "read_problem" = some (some (.ref f_readProblem)))
    (a_readSheet : PySem.W.nsIn K mainGlobals "read_sheet" = some (some (.ref f_readSheet)))
    (a_rightProduct : PySem.W.nsIn K mainGlobals "right_product" = some (some (.ref f_rightProduct)))
    (a_rightQuotient : PySem.W.nsIn K mainGlobals "right_quotient" = some (some (.ref f_rightQuotient)))
    (a_rightRoot : PySem.W.nsIn K mainGlobals "right_root" = some (some (.ref f_rightRoot)))
    (a_rightAnswer : PySem.W.nsIn K mainGlobals "right_answer" = some (some (.ref f_rightAnswer)))
    (a_areRules : PySem.W.nsIn K mainGlobals "are_rules" = some (some (.ref f_areRules)))
    (a_markOf : PySem.W.nsIn K mainGlobals "mark_of" = some (some (.ref f_markOf)))
    (a_marksOf : PySem.W.nsIn K mainGlobals "marks_of" = some (some (.ref f_marksOf)))
    (a_areAllRight : PySem.W.nsIn K mainGlobals "are_all_right" = some (some (.ref f_areAllRight)))
    (a_pointsOfMarks : PySem.W.nsIn K mainGlobals "points_of_marks" = some (some (.ref f_pointsOfMarks)))
    (a_pointsInTime : PySem.W.nsIn K mainGlobals "points_in_time" = some (some (.ref f_pointsInTime)))
    (a_checkLength : PySem.W.nsIn K mainGlobals "check_length" = some (some (.ref f_checkLength)))
    (a_mark : PySem.W.nsIn K mainGlobals "mark" = some (some (.ref f_mark)))
    (pgDec : PySem.W.plainGet K cDec Str.empty = true)
    (hdDec : PySem.W.hasDictIn K cDec = true)
    (poDec : PySem.W.plainOver K cDec = true)
    (saDec : PySem.W.findIn K (.ref cDec) "__setattr__" = some (some (.builtin "object.__setattr__")))
    (mkDec : PySem.W.makesIn K cDec = true)
    (kcDec : PySem.W.keepIn K (.ref cDec) = true)
    (noDec_units : PySem.W.findIn K (.ref cDec) "units" = some none)
    (noDec_scale : PySem.W.findIn K (.ref cDec) "scale" = some none)
    (lTL : K.lookup cTL = some (excClassObj nmTL qTL cTL NTL bsTL [.type "Exception", .type "BaseException", .type "object"] true snTL subTL abTL colTL ddTL k0TL k1TL k2TL k3TL k5TL "Exception.__new__"))
    (lNTL : K.lookup NTL = some ⟨cNTL, dNTL, .dict eNTL pNTL, zNTL⟩)
    (n0TL : (eNTL.toList.all fun e => match e.key with | .str _ _ => true | _ => false) = true)
    (n1TL : PySem.W.nsIn K NTL "__init__" = some (some (.ref f_initTL)))
    (n2TL : PySem.W.nsIn K NTL "__setattr__" = some none)
    (n3TL : PySem.W.nsIn K NTL "__getattribute__" = some none)
    (n4TL : PySem.W.nsIn K NTL "__getattr__" = some none)
    (n5TL : PySem.W.nsIn K NTL "answered" = some none)
    (kpTL : PySem.W.keepIn K (.ref cTL) = true)
    (lFa : K.lookup cFa = some (excClassObj nmFa qFa cFa NFa bsFa [.type "Exception", .type "BaseException", .type "object"] true snFa subFa abFa colFa ddFa k0Fa k1Fa k2Fa k3Fa k5Fa "Exception.__new__"))
    (lNFa : K.lookup NFa = some ⟨cNFa, dNFa, .dict eNFa pNFa, zNFa⟩)
    (n0Fa : (eNFa.toList.all fun e => match e.key with | .str _ _ => true | _ => false) = true)
    (n1Fa : PySem.W.nsIn K NFa "__init__" = some (some (.ref f_initFa)))
    (n2Fa : PySem.W.nsIn K NFa "__setattr__" = some none)
    (n3Fa : PySem.W.nsIn K NFa "__getattribute__" = some none)
    (n4Fa : PySem.W.nsIn K NFa "__getattr__" = some none)
    (n5Fa : PySem.W.nsIn K NFa "answered" = some none)
    (kpFa : PySem.W.keepIn K (.ref cFa) = true)
    (pgRd : PySem.W.plainGet K cRd Str.empty = true)
    (hdRd : PySem.W.hasDictIn K cRd = true)
    (poRd : PySem.W.plainOver K cRd = true)
    (saRd : PySem.W.findIn K (.ref cRd) "__setattr__" = some (some (.builtin "object.__setattr__")))
    (mkRd : PySem.W.makesIn K cRd = true)
    (kcRd : PySem.W.keepIn K (.ref cRd) = true)
    (noRd_text : PySem.W.findIn K (.ref cRd) "text" = some none)
    (noRd_rule : PySem.W.findIn K (.ref cRd) "rule" = some none)
    (noRd_at : PySem.W.findIn K (.ref cRd) "at" = some none)
    (pgAn : PySem.W.plainGet K cAn Str.empty = true)
    (hdAn : PySem.W.hasDictIn K cAn = true)
    (poAn : PySem.W.plainOver K cAn = true)
    (saAn : PySem.W.findIn K (.ref cAn) "__setattr__" = some (some (.builtin "object.__setattr__")))
    (mkAn : PySem.W.makesIn K cAn = true)
    (kcAn : PySem.W.keepIn K (.ref cAn) = true)
    (noAn_seconds : PySem.W.findIn K (.ref cAn) "seconds" = some none)
    (noAn_numbers : PySem.W.findIn K (.ref cAn) "numbers" = some none)
    (pgPr : PySem.W.plainGet K cPr Str.empty = true)
    (hdPr : PySem.W.hasDictIn K cPr = true)
    (poPr : PySem.W.plainOver K cPr = true)
    (saPr : PySem.W.findIn K (.ref cPr) "__setattr__" = some (some (.builtin "object.__setattr__")))
    (mkPr : PySem.W.makesIn K cPr = true)
    (kcPr : PySem.W.keepIn K (.ref cPr) = true)
    (noPr_points : PySem.W.findIn K (.ref cPr) "points" = some none)
    (noPr_kind : PySem.W.findIn K (.ref cPr) "kind" = some none)
    (noPr_numbers : PySem.W.findIn K (.ref cPr) "numbers" = some none)
    (noPr_places : PySem.W.findIn K (.ref cPr) "places" = some none)
    (l_initDec : K.lookup f_initDec = some ⟨oc_initDec, od_initDec, .func (PySem.W.fnOf "__init__" "Decimal.__init__" (defArgs s_initDec) (defBody s_initDec) (defScope s_initDec) .none kV_initDec dc_initDec pm_initDec an_initDec cd_initDec ct_initDec), sl_initDec⟩)
    (c_initDec : PySem.W.codeIn K cd_initDec "Decimal.__init__" = true)
    (k_initDec : PySem.W.keepIn K (.ref f_initDec) = true)
    (l_negated : K.lookup f_negated = some ⟨oc_negated, od_negated, .func (PySem.W.fnOf "negated" "Decimal.negated" (defArgs s_negated) (defBody s_negated) (defScope s_negated) .none kV_negated dc_negated pm_negated an_negated cd_negated ct_negated), sl_negated⟩)
    (c_negated : PySem.W.codeIn K cd_negated "Decimal.negated" = true)
    (k_negated : PySem.W.keepIn K (.ref f_negated) = true)
    (l_tenTo : K.lookup f_tenTo = some ⟨oc_tenTo, od_tenTo, .func (PySem.W.fnOf "ten_to" "ten_to" (defArgs s_tenTo) (defBody s_tenTo) (defScope s_tenTo) .none kV_tenTo dc_tenTo pm_tenTo an_tenTo cd_tenTo ct_tenTo), sl_tenTo⟩)
    (c_tenTo : PySem.W.codeIn K cd_tenTo "ten_to" = true)
    (k_tenTo : PySem.W.keepIn K (.ref f_tenTo) = true)
    (l_nearest : K.lookup f_nearest = some ⟨oc_nearest, od_nearest, .func (PySem.W.fnOf "nearest" "nearest" (defArgs s_nearest) (defBody s_nearest) (defScope s_nearest) .none kV_nearest dc_nearest pm_nearest an_nearest cd_nearest ct_nearest), sl_nearest⟩)
    (c_nearest : PySem.W.codeIn K cd_nearest "nearest" = true)
    (k_nearest : PySem.W.keepIn K (.ref f_nearest) = true)
    (l_wholeRoot : K.lookup f_wholeRoot = some ⟨oc_wholeRoot, od_wholeRoot, .func (PySem.W.fnOf "whole_root" "whole_root" (defArgs s_wholeRoot) (defBody s_wholeRoot) (defScope s_wholeRoot) .none kV_wholeRoot dc_wholeRoot pm_wholeRoot an_wholeRoot cd_wholeRoot ct_wholeRoot), sl_wholeRoot⟩)
    (c_wholeRoot : PySem.W.codeIn K cd_wholeRoot "whole_root" = true)
    (k_wholeRoot : PySem.W.keepIn K (.ref f_wholeRoot) = true)
    (l_nearestRoot : K.lookup f_nearestRoot = some ⟨oc_nearestRoot, od_nearestRoot, .func (PySem.W.fnOf "nearest_root" "nearest_root" (defArgs s_nearestRoot) (defBody s_nearestRoot) (defScope s_nearestRoot) .none kV_nearestRoot dc_nearestRoot pm_nearestRoot an_nearestRoot cd_nearestRoot ct_nearestRoot), sl_nearestRoot⟩)
    (c_nearestRoot : PySem.W.codeIn K cd_nearestRoot "nearest_root" = true)
    (k_nearestRoot : PySem.W.keepIn K (.ref f_nearestRoot) = true)
    (l_initTL : K.lookup f_initTL = some ⟨.type "function", od_initTL, .func (PySem.W.fnOf "__init__" "TooLong.__init__" (defArgs s_initTL) (defBody s_initTL) (defScope s_initTL) .none kV_initTL dc_initTL pm_initTL an_initTL cd_initTL ct_initTL), sl_initTL⟩)
    (c_initTL : PySem.W.codeIn K cd_initTL "TooLong.__init__" = true)
    (k_initTL : PySem.W.keepIn K (.ref f_initTL) = true)
    (l_initFa : K.lookup f_initFa = some ⟨.type "function", od_initFa, .func (PySem.W.fnOf "__init__" "Fault.__init__" (defArgs s_initFa) (defBody s_initFa) (defScope s_initFa) .none kV_initFa dc_initFa pm_initFa an_initFa cd_initFa ct_initFa), sl_initFa⟩)
    (c_initFa : PySem.W.codeIn K cd_initFa "Fault.__init__" = true)
    (k_initFa : PySem.W.keepIn K (.ref f_initFa) = true)
    (l_reaches : K.lookup f_reaches = some ⟨oc_reaches, od_reaches, .func (PySem.W.fnOf "reaches" "reaches" (defArgs s_reaches) (defBody s_reaches) (defScope s_reaches) .none kV_reaches dc_reaches pm_reaches an_reaches cd_reaches ct_reaches), sl_reaches⟩)
    (c_reaches : PySem.W.codeIn K cd_reaches "reaches" = true)
    (k_reaches : PySem.W.keepIn K (.ref f_reaches) = true)
    (l_initRd : K.lookup f_initRd = some ⟨oc_initRd, od_initRd, .func (PySem.W.fnOf "__init__" "Reader.__init__" (defArgs s_initRd) (defBody s_initRd) (defScope s_initRd) .none kV_initRd dc_initRd pm_initRd an_initRd cd_initRd ct_initRd), sl_initRd⟩)
    (c_initRd : PySem.W.codeIn K cd_initRd "Reader.__init__" = true)
    (k_initRd : PySem.W.keepIn K (.ref f_initRd) = true)
    (l_isDone : K.lookup f_isDone = some ⟨oc_isDone, od_isDone, .func (PySem.W.fnOf "is_done" "Reader.is_done" (defArgs s_isDone) (defBody s_isDone) (defScope s_isDone) .none kV_isDone dc_isDone pm_isDone an_isDone cd_isDone ct_isDone), sl_isDone⟩)
    (c_isDone : PySem.W.codeIn K cd_isDone "Reader.is_done" = true)
    (k_isDone : PySem.W.keepIn K (.ref f_isDone) = true)
    (l_peek : K.lookup f_peek = some ⟨oc_peek, od_peek, .func (PySem.W.fnOf "peek" "Reader.peek" (defArgs s_peek) (defBody s_peek) (defScope s_peek) .none kV_peek dc_peek pm_peek an_peek cd_peek ct_peek), sl_peek⟩)
    (c_peek : PySem.W.codeIn K cd_peek "Reader.peek" = true)
    (k_peek : PySem.W.keepIn K (.ref f_peek) = true)
    (l_peekDigit : K.lookup f_peekDigit = some ⟨oc_peekDigit, od_peekDigit, .func (PySem.W.fnOf "peek_digit" "Reader.peek_digit" (defArgs s_peekDigit) (defBody s_peekDigit) (defScope s_peekDigit) .none kV_peekDigit dc_peekDigit pm_peekDigit an_peekDigit cd_peekDigit ct_peekDigit), sl_peekDigit⟩)
    (c_peekDigit : PySem.W.codeIn K cd_peekDigit "Reader.peek_digit" = true)
    (k_peekDigit : PySem.W.keepIn K (.ref f_peekDigit) = true)
    (l_skip : K.lookup f_skip = some ⟨oc_skip, od_skip, .func (PySem.W.fnOf "skip" "Reader.skip" (defArgs s_skip) (defBody s_skip) (defScope s_skip) .none kV_skip dc_skip pm_skip an_skip cd_skip ct_skip), sl_skip⟩)
    (c_skip : PySem.W.codeIn K cd_skip "Reader.skip" = true)
    (k_skip : PySem.W.keepIn K (.ref f_skip) = true)
    (l_readWords : K.lookup f_readWords = some ⟨oc_readWords, od_readWords, .func (PySem.W.fnOf "read_words" "Reader.read_words" (defArgs s_readWords) (defBody s_readWords) (defScope s_readWords) .none kV_readWords dc_readWords pm_readWords an_readWords cd_readWords ct_readWords), sl_readWords⟩)
    (c_readWords : PySem.W.codeIn K cd_readWords "Reader.read_words" = true)
    (k_readWords : PySem.W.keepIn K (.ref f_readWords) = true)
    (l_readBounded : K.lookup f_readBounded = some ⟨oc_readBounded, od_readBounded, .func (PySem.W.fnOf "read_bounded" "Reader.read_bounded" (defArgs s_readBounded) (defBody s_readBounded) (defScope s_readBounded) .none kV_readBounded dc_readBounded pm_readBounded an_readBounded cd_readBounded ct_readBounded), sl_readBounded⟩)
    (c_readBounded : PySem.W.codeIn K cd_readBounded "Reader.read_bounded" = true)
    (k_readBounded : PySem.W.keepIn K (.ref f_readBounded) = true)
    (l_readWhole : K.lookup f_readWhole = some ⟨oc_readWhole, od_readWhole, .func (PySem.W.fnOf "read_whole" "Reader.read_whole" (defArgs s_readWhole) (defBody s_readWhole) (defScope s_readWhole) .none kV_readWhole dc_readWhole pm_readWhole an_readWhole cd_readWhole ct_readWhole), sl_readWhole⟩)
    (c_readWhole : PySem.W.codeIn K cd_readWhole "Reader.read_whole" = true)
    (k_readWhole : PySem.W.keepIn K (.ref f_readWhole) = true)
    (l_readDecimal : K.lookup f_readDecimal = some ⟨oc_readDecimal, od_readDecimal, .func (PySem.W.fnOf "read_decimal" "Reader.read_decimal" (defArgs s_readDecimal) (defBody s_readDecimal) (defScope s_readDecimal) .none kV_readDecimal dc_readDecimal pm_readDecimal an_readDecimal cd_readDecimal ct_readDecimal), sl_readDecimal⟩)
    (c_readDecimal : PySem.W.codeIn K cd_readDecimal "Reader.read_decimal" = true)
    (k_readDecimal : PySem.W.keepIn K (.ref f_readDecimal) = true)
    (l_readUnsigned : K.lookup f_readUnsigned = some ⟨oc_readUnsigned, od_readUnsigned, .func (PySem.W.fnOf "read_unsigned" "Reader.read_unsigned" (defArgs s_readUnsigned) (defBody s_readUnsigned) (defScope s_readUnsigned) .none kV_readUnsigned dc_readUnsigned pm_readUnsigned an_readUnsigned cd_readUnsigned ct_readUnsigned), sl_readUnsigned⟩)
    (c_readUnsigned : PySem.W.codeIn K cd_readUnsigned "Reader.read_unsigned" = true)
    (k_readUnsigned : PySem.W.keepIn K (.ref f_readUnsigned) = true)
    (l_readTail : K.lookup f_readTail = some ⟨oc_readTail, od_readTail, .func (PySem.W.fnOf "read_tail" "Reader.read_tail" (defArgs s_readTail) (defBody s_readTail) (defScope s_readTail) .none kV_readTail dc_readTail pm_readTail an_readTail cd_readTail ct_readTail), sl_readTail⟩)
    (c_readTail : PySem.W.codeIn K cd_readTail "Reader.read_tail" = true)
    (k_readTail : PySem.W.keepIn K (.ref f_readTail) = true)
    (l_initAn : K.lookup f_initAn = some ⟨oc_initAn, od_initAn, .func (PySem.W.fnOf "__init__" "Answers.__init__" (defArgs s_initAn) (defBody s_initAn) (defScope s_initAn) .none kV_initAn dc_initAn pm_initAn an_initAn cd_initAn ct_initAn), sl_initAn⟩)
    (c_initAn : PySem.W.codeIn K cd_initAn "Answers.__init__" = true)
    (k_initAn : PySem.W.keepIn K (.ref f_initAn) = true)
    (l_readNumber : K.lookup f_readNumber = some ⟨oc_readNumber, od_readNumber, .func (PySem.W.fnOf "read_number" "read_number" (defArgs s_readNumber) (defBody s_readNumber) (defScope s_readNumber) .none kV_readNumber dc_readNumber pm_readNumber an_readNumber cd_readNumber ct_readNumber), sl_readNumber⟩)
    (c_readNumber : PySem.W.codeIn K cd_readNumber "read_number" = true)
    (k_readNumber : PySem.W.keepIn K (.ref f_readNumber) = true)
    (l_readAnswers : K.lookup f_readAnswers = some ⟨oc_readAnswers, od_readAnswers, .func (PySem.W.fnOf "read_answers" "read_answers" (defArgs s_readAnswers) (defBody s_readAnswers) (defScope s_readAnswers) .none kV_readAnswers dc_readAnswers pm_readAnswers an_readAnswers cd_readAnswers ct_readAnswers), sl_readAnswers⟩)
    (c_readAnswers : PySem.W.codeIn K cd_readAnswers "read_answers" = true)
    (k_readAnswers : PySem.W.keepIn K (.ref f_readAnswers) = true)
    (l_initPr : K.lookup f_initPr = some ⟨oc_initPr, od_initPr, .func (PySem.W.fnOf "__init__" "Problem.__init__" (defArgs s_initPr) (defBody s_initPr) (defScope s_initPr) .none kV_initPr dc_initPr pm_initPr an_initPr cd_initPr ct_initPr), sl_initPr⟩)
    (c_initPr : PySem.W.codeIn K cd_initPr "Problem.__init__" = true)
    (k_initPr : PySem.W.keepIn K (.ref f_initPr) = true)
    (l_readKind : K.lookup f_readKind = some ⟨oc_readKind, od_readKind, .func (PySem.W.fnOf "read_kind" "read_kind" (defArgs s_readKind) (defBody s_readKind) (defScope s_readKind) .none kV_readKind dc_readKind pm_readKind an_readKind cd_readKind ct_readKind), sl_readKind⟩)
    (c_readKind : PySem.W.codeIn K cd_readKind "read_kind" = true)
    (k_readKind : PySem.W.keepIn K (.ref f_readKind) = true)
    (l_readRows : K.lookup f_readRows = some ⟨oc_readRows, od_readRows, .func (PySem.W.fnOf "read_rows" "read_rows" (defArgs s_readRows) (defBody s_readRows) (defScope s_readRows) .none kV_readRows dc_readRows pm_readRows an_readRows cd_readRows ct_readRows), sl_readRows⟩)
    (c_readRows : PySem.W.codeIn K cd_readRows "read_rows" = true)
    (k_readRows : PySem.W.keepIn K (.ref f_readRows) = true)
    (l_readOperands : K.lookup f_readOperands = some ⟨oc_readOperands, od_readOperands, .func (PySem.W.fnOf "read_operands" "read_operands" (defArgs s_readOperands) (defBody s_readOperands) (defScope s_readOperands) .none kV_readOperands dc_readOperands pm_readOperands an_readOperands cd_readOperands ct_readOperands), sl_readOperands⟩)
    (c_readOperands : PySem.W.codeIn K cd_readOperands "read_operands" = true)
    (k_readOperands : PySem.W.keepIn K (.ref f_readOperands) = true)
    (l_readProblem : K.lookup f_readProblem = some ⟨oc_readProblem, od_readProblem, .func (PySem.W.fnOf "read_problem" "read_problem" (defArgs s_readProblem) (defBody s_readProblem) (defScope s_readProblem) .none kV_readProblem dc_readProblem pm_readProblem an_readProblem cd_readProblem ct_readProblem), sl_readProblem⟩)
    (c_readProblem : PySem.W.codeIn K cd_readProblem "read_problem" = true)
    (k_readProblem : PySem.W.keepIn K (.ref f_readProblem) = true)
    (l_readSheet : K.lookup f_readSheet = some ⟨oc_readSheet, od_readSheet, .func (PySem.W.fnOf "read_sheet" "read_sheet" (defArgs s_readSheet) (defBody s_readSheet) (defScope s_readSheet) .none kV_readSheet dc_readSheet pm_readSheet an_readSheet cd_readSheet ct_readSheet), sl_readSheet⟩)
    (c_readSheet : PySem.W.codeIn K cd_readSheet "read_sheet" = true)
    (k_readSheet : PySem.W.keepIn K (.ref f_readSheet) = true)
    (l_rightProduct : K.lookup f_rightProduct = some ⟨oc_rightProduct, od_rightProduct, .func (PySem.W.fnOf "right_product" "right_product" (defArgs s_rightProduct) (defBody s_rightProduct) (defScope s_rightProduct) .none kV_rightProduct dc_rightProduct pm_rightProduct an_rightProduct cd_rightProduct ct_rightProduct), sl_rightProduct⟩)
    (c_rightProduct : PySem.W.codeIn K cd_rightProduct "right_product" = true)
    (k_rightProduct : PySem.W.keepIn K (.ref f_rightProduct) = true)
    (l_rightQuotient : K.lookup f_rightQuotient = some ⟨oc_rightQuotient, od_rightQuotient, .func (PySem.W.fnOf "right_quotient" "right_quotient" (defArgs s_rightQuotient) (defBody s_rightQuotient) (defScope s_rightQuotient) .none kV_rightQuotient dc_rightQuotient pm_rightQuotient an_rightQuotient cd_rightQuotient ct_rightQuotient), sl_rightQuotient⟩)
    (c_rightQuotient : PySem.W.codeIn K cd_rightQuotient "right_quotient" = true)
    (k_rightQuotient : PySem.W.keepIn K (.ref f_rightQuotient) = true)
    (l_rightRoot : K.lookup f_rightRoot = some ⟨oc_rightRoot, od_rightRoot, .func (PySem.W.fnOf "right_root" "right_root" (defArgs s_rightRoot) (defBody s_rightRoot) (defScope s_rightRoot) .none kV_rightRoot dc_rightRoot pm_rightRoot an_rightRoot cd_rightRoot ct_rightRoot), sl_rightRoot⟩)
    (c_rightRoot : PySem.W.codeIn K cd_rightRoot "right_root" = true)
    (k_rightRoot : PySem.W.keepIn K (.ref f_rightRoot) = true)
    (l_rightAnswer : K.lookup f_rightAnswer = some ⟨oc_rightAnswer, od_rightAnswer, .func (PySem.W.fnOf "right_answer" "right_answer" (defArgs s_rightAnswer) (defBody s_rightAnswer) (defScope s_rightAnswer) .none kV_rightAnswer dc_rightAnswer pm_rightAnswer an_rightAnswer cd_rightAnswer ct_rightAnswer), sl_rightAnswer⟩)
    (c_rightAnswer : PySem.W.codeIn K cd_rightAnswer "right_answer" = true)
    (k_rightAnswer : PySem.W.keepIn K (.ref f_rightAnswer) = true)
    (l_areRules : K.lookup f_areRules = some ⟨oc_areRules, od_areRules, .func (PySem.W.fnOf "are_rules" "are_rules" (defArgs s_areRules) (defBody s_areRules) (defScope s_areRules) .none kV_areRules dc_areRules pm_areRules an_areRules cd_areRules ct_areRules), sl_areRules⟩)
    (c_areRules : PySem.W.codeIn K cd_areRules "are_rules" = true)
    (k_areRules : PySem.W.keepIn K (.ref f_areRules) = true)
    (l_markOf : K.lookup f_markOf = some ⟨oc_markOf, od_markOf, .func (PySem.W.fnOf "mark_of" "mark_of" (defArgs s_markOf) (defBody s_markOf) (defScope s_markOf) .none kV_markOf dc_markOf pm_markOf an_markOf cd_markOf ct_markOf), sl_markOf⟩)
    (c_markOf : PySem.W.codeIn K cd_markOf "mark_of" = true)
    (k_markOf : PySem.W.keepIn K (.ref f_markOf) = true)
    (l_marksOf : K.lookup f_marksOf = some ⟨oc_marksOf, od_marksOf, .func (PySem.W.fnOf "marks_of" "marks_of" (defArgs s_marksOf) (defBody s_marksOf) (defScope s_marksOf) .none kV_marksOf dc_marksOf pm_marksOf an_marksOf cd_marksOf ct_marksOf), sl_marksOf⟩)
    (c_marksOf : PySem.W.codeIn K cd_marksOf "marks_of" = true)
    (k_marksOf : PySem.W.keepIn K (.ref f_marksOf) = true)
    (l_areAllRight : K.lookup f_areAllRight = some ⟨oc_areAllRight, od_areAllRight, .func (PySem.W.fnOf "are_all_right" "are_all_right" (defArgs s_areAllRight) (defBody s_areAllRight) (defScope s_areAllRight) .none kV_areAllRight dc_areAllRight pm_areAllRight an_areAllRight cd_areAllRight ct_areAllRight), sl_areAllRight⟩)
    (c_areAllRight : PySem.W.codeIn K cd_areAllRight "are_all_right" = true)
    (k_areAllRight : PySem.W.keepIn K (.ref f_areAllRight) = true)
    (l_pointsOfMarks : K.lookup f_pointsOfMarks = some ⟨oc_pointsOfMarks, od_pointsOfMarks, .func (PySem.W.fnOf "points_of_marks" "points_of_marks" (defArgs s_pointsOfMarks) (defBody s_pointsOfMarks) (defScope s_pointsOfMarks) .none kV_pointsOfMarks dc_pointsOfMarks pm_pointsOfMarks an_pointsOfMarks cd_pointsOfMarks ct_pointsOfMarks), sl_pointsOfMarks⟩)
    (c_pointsOfMarks : PySem.W.codeIn K cd_pointsOfMarks "points_of_marks" = true)
    (k_pointsOfMarks : PySem.W.keepIn K (.ref f_pointsOfMarks) = true)
    (l_pointsInTime : K.lookup f_pointsInTime = some ⟨oc_pointsInTime, od_pointsInTime, .func (PySem.W.fnOf "points_in_time" "points_in_time" (defArgs s_pointsInTime) (defBody s_pointsInTime) (defScope s_pointsInTime) .none kV_pointsInTime dc_pointsInTime pm_pointsInTime an_pointsInTime cd_pointsInTime ct_pointsInTime), sl_pointsInTime⟩)
    (c_pointsInTime : PySem.W.codeIn K cd_pointsInTime "points_in_time" = true)
    (k_pointsInTime : PySem.W.keepIn K (.ref f_pointsInTime) = true)
    (l_checkLength : K.lookup f_checkLength = some ⟨oc_checkLength, od_checkLength, .func (PySem.W.fnOf "check_length" "check_length" (defArgs s_checkLength) (defBody s_checkLength) (defScope s_checkLength) .none kV_checkLength dc_checkLength pm_checkLength an_checkLength cd_checkLength ct_checkLength), sl_checkLength⟩)
    (c_checkLength : PySem.W.codeIn K cd_checkLength "check_length" = true)
    (k_checkLength : PySem.W.keepIn K (.ref f_checkLength) = true)
    (l_mark : K.lookup f_mark = some ⟨oc_mark, od_mark, .func (PySem.W.fnOf "mark" "mark" (defArgs s_mark) (defBody s_mark) (defScope s_mark) .none kV_mark dc_mark pm_mark an_mark cd_mark ct_mark), sl_mark⟩)
    (c_mark : PySem.W.codeIn K cd_mark "mark" = true)
    (k_mark : PySem.W.keepIn K (.ref f_mark) = true)
    (v_MINUS : PySem.W.nsIn K mainGlobals "MINUS" = some (some (.int 45 t_MINUS)))
    (v_POINT : PySem.W.nsIn K mainGlobals "POINT" = some (some (.int 46 t_POINT)))
    (v_NOUGHT : PySem.W.nsIn K mainGlobals "NOUGHT" = some (some (.int 48 t_NOUGHT)))
    (v_NINE : PySem.W.nsIn K mainGlobals "NINE" = some (some (.int 57 t_NINE)))
    (v_MOST_WHOLE : PySem.W.nsIn K mainGlobals "MOST_WHOLE" = some (some (.int 999999999999999999 t_MOST_WHOLE)))
    (v_MOST_SCALE : PySem.W.nsIn K mainGlobals "MOST_SCALE" = some (some (.int 1000000000 t_MOST_SCALE)))
    (v_ANSWERS_RULE : PySem.W.nsIn K mainGlobals "ANSWERS_RULE" = some (some (.int 13 t_ANSWERS_RULE)))
    (v_LINE_FEED : PySem.W.nsIn K mainGlobals "LINE_FEED" = some (some (.int 10 t_LINE_FEED)))
    (v_MOST_SECONDS : PySem.W.nsIn K mainGlobals "MOST_SECONDS" = some (some (.int 99999 t_MOST_SECONDS)))
    (v_MOST_ANSWER : PySem.W.nsIn K mainGlobals "MOST_ANSWER" = some (some (.int 9999999999999999999999999999999999999999 t_MOST_ANSWER)))
    (v_SHEET_RULE : PySem.W.nsIn K mainGlobals "SHEET_RULE" = some (some (.int 12 t_SHEET_RULE)))
    (v_FEWEST_ROWS : PySem.W.nsIn K mainGlobals "FEWEST_ROWS" = some (some (.int 2 t_FEWEST_ROWS)))
    (v_MOST_ROWS : PySem.W.nsIn K mainGlobals "MOST_ROWS" = some (some (.int 64 t_MOST_ROWS)))
    (v_LEFT_OUT : PySem.W.nsIn K mainGlobals "LEFT_OUT" = some (some (.int 0 t_LEFT_OUT)))
    (v_RIGHT : PySem.W.nsIn K mainGlobals "RIGHT" = some (some (.int 1 t_RIGHT)))
    (v_WRONG : PySem.W.nsIn K mainGlobals "WRONG" = some (some (.int 2 t_WRONG)))
    (v_MOST_LIMIT : PySem.W.nsIn K mainGlobals "MOST_LIMIT" = some (some (.int 99999 t_MOST_LIMIT)))
    (v_MOST_MINUS : PySem.W.nsIn K mainGlobals "MOST_MINUS" = some (some (.int 9999 t_MOST_MINUS)))
    (v_MOST_BONUS : PySem.W.nsIn K mainGlobals "MOST_BONUS" = some (some (.int 9999 t_MOST_BONUS)))
    (v_MINUTE : PySem.W.nsIn K mainGlobals "MINUTE" = some (some (.int 60 t_MINUTE)))
    (v_MOST_BYTES : PySem.W.nsIn K mainGlobals "MOST_BYTES" = some (some (.int 16384 t_MOST_BYTES)))
    (v_KIND_BY_BYTE : PySem.W.nsIn K mainGlobals "KIND_BY_BYTE" = some (some (.ref d_KIND_BY_BYTE)))
    (o_KIND_BY_BYTE : K.lookup d_KIND_BY_BYTE = some ⟨.type "dict", none, .dict #[⟨115, .int 115 t0, .str "sum" u0⟩, ⟨112, .int 112 t1, .str "product" u1⟩, ⟨113, .int 113 t2, .str "quotient" u2⟩, ⟨114, .int 114 t3, .str "root" u3⟩] ep_KIND_BY_BYTE, #[]⟩)
    (y_KIND_BY_BYTE : (d_KIND_BY_BYTE == sysModules) = false)
    (b_range : PySem.W.nsIn K mainGlobals "range" = some none)
    (b_abs : PySem.W.nsIn K mainGlobals "abs" = some none)
    (b_len : PySem.W.nsIn K mainGlobals "len" = some none)
    (b_ord : PySem.W.nsIn K mainGlobals "ord" = some none)
    (b_sum : PySem.W.nsIn K mainGlobals "sum" = some none)
    (b_zip : PySem.W.nsIn K mainGlobals "zip" = some none)
    (b_max : PySem.W.nsIn K mainGlobals "max" = some none)
    : ∃ a, Tx K mg a := by
  have F_initDec := fun_mk (st := s_initDec) l_initDec c_initDec k_initDec
  have B_initDec := F_initDec.binds (ps := ["self", "units", "scale"]) fun _ _ _ _ _ _ us hl => match us, hl with | [_, _, _], _ => rfl
  have F_negated := fun_mk (st := s_negated) l_negated c_negated k_negated
  have B_negated := F_negated.binds (ps := ["self"]) fun _ _ _ _ _ _ us hl => match us, hl with | [_], _ => rfl
  have F_tenTo := fun_mk (st := s_tenTo) l_tenTo c_tenTo k_tenTo
  have B_tenTo := F_tenTo.binds (ps := ["count"]) fun _ _ _ _ _ _ us hl => match us, hl with | [_], _ => rfl
  have F_nearest := fun_mk (st := s_nearest) l_nearest c_nearest k_nearest
  have B_nearest := F_nearest.binds (ps := ["top", "bottom"]) fun _ _ _ _ _ _ us hl => match us, hl with | [_, _], _ => rfl
  have F_wholeRoot := fun_mk (st := s_wholeRoot) l_wholeRoot c_wholeRoot k_wholeRoot
  have B_wholeRoot := F_wholeRoot.binds (ps := ["number"]) fun _ _ _ _ _ _ us hl => match us, hl with | [_], _ => rfl
  have F_nearestRoot := fun_mk (st := s_nearestRoot) l_nearestRoot c_nearestRoot k_nearestRoot
  have B_nearestRoot := F_nearestRoot.binds (ps := ["top", "bottom"]) fun _ _ _ _ _ _ us hl => match us, hl with | [_, _], _ => rfl
  have F_initTL := fun_mk (st := s_initTL) l_initTL c_initTL k_initTL
  have B_initTL := F_initTL.binds (ps := ["self"]) fun _ _ _ _ _ _ us hl => match us, hl with | [_], _ => rfl
  have F_initFa := fun_mk (st := s_initFa) l_initFa c_initFa k_initFa
  have B_initFa := F_initFa.binds (ps := ["self", "rule", "place"]) fun _ _ _ _ _ _ us hl => match us, hl with | [_, _, _], _ => rfl
  have F_reaches := fun_mk (st := s_reaches) l_reaches c_reaches k_reaches
  have B_reaches := F_reaches.binds (ps := ["value", "low", "high"]) fun _ _ _ _ _ _ us hl => match us, hl with | [_, _, _], _ => rfl
  have F_initRd := fun_mk (st := s_initRd) l_initRd c_initRd k_initRd
  have B_initRd := F_initRd.binds (ps := ["self", "text", "rule"]) fun _ _ _ _ _ _ us hl => match us, hl with | [_, _, _], _ => rfl
  have F_isDone := fun_mk (st := s_isDone) l_isDone c_isDone k_isDone
  have B_isDone := F_isDone.binds (ps := ["self"]) fun _ _ _ _ _ _ us hl => match us, hl with | [_], _ => rfl
  have F_peek := fun_mk (st := s_peek) l_peek c_peek k_peek
  have B_peek := F_peek.binds (ps := ["self"]) fun _ _ _ _ _ _ us hl => match us, hl with | [_], _ => rfl
  have F_peekDigit := fun_mk (st := s_peekDigit) l_peekDigit c_peekDigit k_peekDigit
  have B_peekDigit := F_peekDigit.binds (ps := ["self"]) fun _ _ _ _ _ _ us hl => match us, hl with | [_], _ => rfl
  have F_skip := fun_mk (st := s_skip) l_skip c_skip k_skip
  have B_skip := F_skip.binds (ps := ["self", "byte"]) fun _ _ _ _ _ _ us hl => match us, hl with | [_, _], _ => rfl
  have F_readWords := fun_mk (st := s_readWords) l_readWords c_readWords k_readWords
  have B_readWords := F_readWords.binds (ps := ["self", "words"]) fun _ _ _ _ _ _ us hl => match us, hl with | [_, _], _ => rfl
  have F_readBounded := fun_mk (st := s_readBounded) l_readBounded c_readBounded k_readBounded
  have B_readBounded := F_readBounded.binds (ps := ["self", "low", "high"]) fun _ _ _ _ _ _ us hl => match us, hl with | [_, _, _], _ => rfl
  have F_readWhole := fun_mk (st := s_readWhole) l_readWhole c_readWhole k_readWhole
  have B_readWhole := F_readWhole.binds (ps := ["self"]) fun _ _ _ _ _ _ us hl => match us, hl with | [_], _ => rfl
  have F_readDecimal := fun_mk (st := s_readDecimal) l_readDecimal c_readDecimal k_readDecimal
  have B_readDecimal := F_readDecimal.binds (ps := ["self", "may_be_below", "may_be_nought"]) fun _ _ _ _ _ _ us hl => match us, hl with | [_, _, _], _ => rfl
  have F_readUnsigned := fun_mk (st := s_readUnsigned) l_readUnsigned c_readUnsigned k_readUnsigned
  have B_readUnsigned := F_readUnsigned.binds (ps := ["self", "most_whole", "may_be_nought"]) fun _ _ _ _ _ _ us hl => match us, hl with | [_, _, _], _ => rfl
  have F_readTail := fun_mk (st := s_readTail) l_readTail c_readTail k_readTail
  have B_readTail := F_readTail.binds (ps := ["self", "number", "may_be_nought"]) fun _ _ _ _ _ _ us hl => match us, hl with | [_, _, _], _ => rfl
  have F_initAn := fun_mk (st := s_initAn) l_initAn c_initAn k_initAn
  have B_initAn := F_initAn.binds (ps := ["self", "seconds", "numbers"]) fun _ _ _ _ _ _ us hl => match us, hl with | [_, _, _], _ => rfl
  have F_readNumber := fun_mk (st := s_readNumber) l_readNumber c_readNumber k_readNumber
  have B_readNumber := F_readNumber.binds (ps := ["reader"]) fun _ _ _ _ _ _ us hl => match us, hl with | [_], _ => rfl
  have F_readAnswers := fun_mk (st := s_readAnswers) l_readAnswers c_readAnswers k_readAnswers
  have B_readAnswers := F_readAnswers.binds (ps := ["text"]) fun _ _ _ _ _ _ us hl => match us, hl with | [_], _ => rfl
  have F_initPr := fun_mk (st := s_initPr) l_initPr c_initPr k_initPr
  have B_initPr := F_initPr.binds (ps := ["self", "points", "kind", "numbers", "places"]) fun _ _ _ _ _ _ us hl => match us, hl with | [_, _, _, _, _], _ => rfl
  have F_readKind := fun_mk (st := s_readKind) l_readKind c_readKind k_readKind
  have B_readKind := F_readKind.binds (ps := ["reader"]) fun _ _ _ _ _ _ us hl => match us, hl with | [_], _ => rfl
  have F_readRows := fun_mk (st := s_readRows) l_readRows c_readRows k_readRows
  have B_readRows := F_readRows.binds (ps := ["reader"]) fun _ _ _ _ _ _ us hl => match us, hl with | [_], _ => rfl
  have F_readOperands := fun_mk (st := s_readOperands) l_readOperands c_readOperands k_readOperands
  have B_readOperands := F_readOperands.binds (ps := ["reader", "kind"]) fun _ _ _ _ _ _ us hl => match us, hl with | [_, _], _ => rfl
  have F_readProblem := fun_mk (st := s_readProblem) l_readProblem c_readProblem k_readProblem
  have B_readProblem := F_readProblem.binds (ps := ["reader"]) fun _ _ _ _ _ _ us hl => match us, hl with | [_], _ => rfl
  have F_readSheet := fun_mk (st := s_readSheet) l_readSheet c_readSheet k_readSheet
  have B_readSheet := F_readSheet.binds (ps := ["text"]) fun _ _ _ _ _ _ us hl => match us, hl with | [_], _ => rfl
  have F_rightProduct := fun_mk (st := s_rightProduct) l_rightProduct c_rightProduct k_rightProduct
  have B_rightProduct := F_rightProduct.binds (ps := ["first", "second", "unit"]) fun _ _ _ _ _ _ us hl => match us, hl with | [_, _, _], _ => rfl
  have F_rightQuotient := fun_mk (st := s_rightQuotient) l_rightQuotient c_rightQuotient k_rightQuotient
  have B_rightQuotient := F_rightQuotient.binds (ps := ["first", "second", "unit"]) fun _ _ _ _ _ _ us hl => match us, hl with | [_, _, _], _ => rfl
  have F_rightRoot := fun_mk (st := s_rightRoot) l_rightRoot c_rightRoot k_rightRoot
  have B_rightRoot := F_rightRoot.binds (ps := ["number", "unit"]) fun _ _ _ _ _ _ us hl => match us, hl with | [_, _], _ => rfl
  have F_rightAnswer := fun_mk (st := s_rightAnswer) l_rightAnswer c_rightAnswer k_rightAnswer
  have B_rightAnswer := F_rightAnswer.binds (ps := ["problem"]) fun _ _ _ _ _ _ us hl => match us, hl with | [_], _ => rfl
  have F_areRules := fun_mk (st := s_areRules) l_areRules c_areRules k_areRules
  have B_areRules := F_areRules.binds (ps := ["limit", "minus", "bonus"]) fun _ _ _ _ _ _ us hl => match us, hl with | [_, _, _], _ => rfl
  have F_markOf := fun_mk (st := s_markOf) l_markOf c_markOf k_markOf
  have B_markOf := F_markOf.binds (ps := ["problem", "number"]) fun _ _ _ _ _ _ us hl => match us, hl with | [_, _], _ => rfl
  have F_marksOf := fun_mk (st := s_marksOf) l_marksOf c_marksOf k_marksOf
  have B_marksOf := F_marksOf.binds (ps := ["problems", "numbers"]) fun _ _ _ _ _ _ us hl => match us, hl with | [_, _], _ => rfl
  have F_areAllRight := fun_mk (st := s_areAllRight) l_areAllRight c_areAllRight k_areAllRight
  have B_areAllRight := F_areAllRight.binds (ps := ["marks"]) fun _ _ _ _ _ _ us hl => match us, hl with | [_], _ => rfl
  have F_pointsOfMarks := fun_mk (st := s_pointsOfMarks) l_pointsOfMarks c_pointsOfMarks k_pointsOfMarks
  have B_pointsOfMarks := F_pointsOfMarks.binds (ps := ["problems", "marks", "minus"]) fun _ _ _ _ _ _ us hl => match us, hl with | [_, _, _], _ => rfl
  have F_pointsInTime := fun_mk (st := s_pointsInTime) l_pointsInTime c_pointsInTime k_pointsInTime
  have B_pointsInTime := F_pointsInTime.binds (ps := ["points", "marks", "seconds", "limit", "bonus"]) fun _ _ _ _ _ _ us hl => match us, hl with | [_, _, _, _, _], _ => rfl
  have F_checkLength := fun_mk (st := s_checkLength) l_checkLength c_checkLength k_checkLength
  have B_checkLength := F_checkLength.binds (ps := ["text"]) fun _ _ _ _ _ _ us hl => match us, hl with | [_], _ => rfl
  have F_mark := fun_mk (st := s_mark) l_mark c_mark k_mark
  have B_mark := F_mark.binds (ps := ["limit", "minus", "bonus", "sheet", "answers"]) fun _ _ _ _ _ _ us hl => match us, hl with | [_, _, _, _, _], _ => rfl
  refine ⟨{ cDec := cDec, cTL := cTL, cFa := cFa, cRd := cRd, cAn := cAn, cPr := cPr, f_initDec := f_initDec, f_negated := f_negated, f_tenTo := f_tenTo, f_nearest := f_nearest, f_wholeRoot := f_wholeRoot, f_nearestRoot := f_nearestRoot, f_initTL := f_initTL, f_initFa := f_initFa, f_reaches := f_reaches, f_initRd := f_initRd, f_isDone := f_isDone, f_peek := f_peek, f_peekDigit := f_peekDigit, f_skip := f_skip, f_readWords := f_readWords, f_readBounded := f_readBounded, f_readWhole := f_readWhole, f_readDecimal := f_readDecimal, f_readUnsigned := f_readUnsigned, f_readTail := f_readTail, f_initAn := f_initAn, f_readNumber := f_readNumber, f_readAnswers := f_readAnswers, f_initPr := f_initPr, f_readKind := f_readKind, f_readRows := f_readRows, f_readOperands := f_readOperands, f_readProblem := f_readProblem, f_readSheet := f_readSheet, f_rightProduct := f_rightProduct, f_rightQuotient := f_rightQuotient, f_rightRoot := f_rightRoot, f_rightAnswer := f_rightAnswer, f_areRules := f_areRules, f_markOf := f_markOf, f_marksOf := f_marksOf, f_areAllRight := f_areAllRight, f_pointsOfMarks := f_pointsOfMarks, f_pointsInTime := f_pointsInTime, f_checkLength := f_checkLength, f_mark := f_mark, d_KIND_BY_BYTE := d_KIND_BY_BYTE }, ?_⟩
  refine {
    initDec := ⟨⟨_, F_initDec, B_initDec⟩⟩
    negated := ⟨⟨_, F_negated, B_negated⟩⟩
    tenTo := ⟨⟨_, F_tenTo, B_tenTo⟩⟩
    nearest := ⟨⟨_, F_nearest, B_nearest⟩⟩
    wholeRoot := ⟨⟨_, F_wholeRoot, B_wholeRoot⟩⟩
    nearestRoot := ⟨⟨_, F_nearestRoot, B_nearestRoot⟩⟩
    initTL := ⟨⟨_, F_initTL, B_initTL⟩⟩
    initFa := ⟨⟨_, F_initFa, B_initFa⟩⟩
    reaches := ⟨⟨_, F_reaches, B_reaches⟩⟩
    initRd := ⟨⟨_, F_initRd, B_initRd⟩⟩
    isDone := ⟨⟨_, F_isDone, B_isDone⟩⟩
    peek := ⟨⟨_, F_peek, B_peek⟩⟩
    peekDigit := ⟨⟨_, F_peekDigit, B_peekDigit⟩⟩
    skip := ⟨⟨_, F_skip, B_skip⟩⟩
    readWords := ⟨⟨_, F_readWords, B_readWords⟩⟩
    readBounded := ⟨⟨_, F_readBounded, B_readBounded⟩⟩
    readWhole := ⟨⟨_, F_readWhole, B_readWhole⟩⟩
    readDecimal := ⟨⟨_, F_readDecimal, B_readDecimal⟩⟩
    readUnsigned := ⟨⟨_, F_readUnsigned, B_readUnsigned⟩⟩
    readTail := ⟨⟨_, F_readTail, B_readTail⟩⟩
    initAn := ⟨⟨_, F_initAn, B_initAn⟩⟩
    readNumber := ⟨⟨_, F_readNumber, B_readNumber⟩⟩
    readAnswers := ⟨⟨_, F_readAnswers, B_readAnswers⟩⟩
    initPr := ⟨⟨_, F_initPr, B_initPr⟩⟩
    readKind := ⟨⟨_, F_readKind, B_readKind⟩⟩
    readRows := ⟨⟨_, F_readRows, B_readRows⟩⟩
    readOperands := ⟨⟨_, F_readOperands, B_readOperands⟩⟩
    readProblem := ⟨⟨_, F_readProblem, B_readProblem⟩⟩
    readSheet := ⟨⟨_, F_readSheet, B_readSheet⟩⟩
    rightProduct := ⟨⟨_, F_rightProduct, B_rightProduct⟩⟩
    rightQuotient := ⟨⟨_, F_rightQuotient, B_rightQuotient⟩⟩
    rightRoot := ⟨⟨_, F_rightRoot, B_rightRoot⟩⟩
    rightAnswer := ⟨⟨_, F_rightAnswer, B_rightAnswer⟩⟩
    areRules := ⟨⟨_, F_areRules, B_areRules⟩⟩
    markOf := ⟨⟨_, F_markOf, B_markOf⟩⟩
    marksOf := ⟨⟨_, F_marksOf, B_marksOf⟩⟩
    areAllRight := ⟨⟨_, F_areAllRight, B_areAllRight⟩⟩
    pointsOfMarks := ⟨⟨_, F_pointsOfMarks, B_pointsOfMarks⟩⟩
    pointsInTime := ⟨⟨_, F_pointsInTime, B_pointsInTime⟩⟩
    checkLength := ⟨⟨_, F_checkLength, B_checkLength⟩⟩
    mark := ⟨⟨_, F_mark, B_mark⟩⟩
    pDec := ⟨⟨pgDec, hdDec, poDec, saDec⟩, ⟨mkDec, a_initDec, i_initDec, kcDec⟩, PySem.W.mg_of X G aCDec, fun f hf => by
      simp only [List.mem_cons, List.not_mem_nil, or_false] at hf
      rcases hf with rfl | rfl
      · exact noDec_units
      · exact noDec_scale⟩
    m_negated := ⟨a_negated, i_negated, k_negated⟩
    xTL := ⟨⟨nmTL, qTL, NTL, bsTL, snTL, subTL, abTL, colTL, ddTL, k0TL, k1TL, k2TL, k3TL, k5TL, lTL, nsOk_of lNTL n0TL, n1TL, n2TL, n3TL, n4TL, n5TL⟩, ⟨_, _, _, l_initTL⟩, kpTL, low_answered⟩
    gTL := PySem.W.mg_of X G aCTL
    xFa := ⟨⟨nmFa, qFa, NFa, bsFa, snFa, subFa, abFa, colFa, ddFa, k0Fa, k1Fa, k2Fa, k3Fa, k5Fa, lFa, nsOk_of lNFa n0Fa, n1Fa, n2Fa, n3Fa, n4Fa, n5Fa⟩, ⟨_, _, _, l_initFa⟩, kpFa, low_answered⟩
    gFa := PySem.W.mg_of X G aCFa
    pRd := ⟨⟨pgRd, hdRd, poRd, saRd⟩, ⟨mkRd, a_initRd, i_initRd, kcRd⟩, PySem.W.mg_of X G aCRd, fun f hf => by
      simp only [List.mem_cons, List.not_mem_nil, or_false] at hf
      rcases hf with rfl | rfl | rfl
      · exact noRd_text
      · exact noRd_rule
      · exact noRd_at⟩
    m_isDone := ⟨a_isDone, i_isDone, k_isDone⟩
    m_peek := ⟨a_peek, i_peek, k_peek⟩
    m_peekDigit := ⟨a_peekDigit, i_peekDigit, k_peekDigit⟩
    m_skip := ⟨a_skip, i_skip, k_skip⟩
    m_readWords := ⟨a_readWords, i_readWords, k_readWords⟩
    m_readBounded := ⟨a_readBounded, i_readBounded, k_readBounded⟩
    m_readWhole := ⟨a_readWhole, i_readWhole, k_readWhole⟩
    m_readDecimal := ⟨a_readDecimal, i_readDecimal, k_readDecimal⟩
    m_readUnsigned := ⟨a_readUnsigned, i_readUnsigned, k_readUnsigned⟩
    m_readTail := ⟨a_readTail, i_readTail, k_readTail⟩
    pAn := ⟨⟨pgAn, hdAn, poAn, saAn⟩, ⟨mkAn, a_initAn, i_initAn, kcAn⟩, PySem.W.mg_of X G aCAn, fun f hf => by
      simp only [List.mem_cons, List.not_mem_nil, or_false] at hf
      rcases hf with rfl | rfl
      · exact noAn_seconds
      · exact noAn_numbers⟩
    pPr := ⟨⟨pgPr, hdPr, poPr, saPr⟩, ⟨mkPr, a_initPr, i_initPr, kcPr⟩, PySem.W.mg_of X G aCPr, fun f hf => by
      simp only [List.mem_cons, List.not_mem_nil, or_false] at hf
      rcases hf with rfl | rfl | rfl | rfl
      · exact noPr_points
      · exact noPr_kind
      · exact noPr_numbers
      · exact noPr_places⟩
    g_tenTo := PySem.W.mg_of X G a_tenTo
    g_nearest := PySem.W.mg_of X G a_nearest
    g_wholeRoot := PySem.W.mg_of X G a_wholeRoot
    g_nearestRoot := PySem.W.mg_of X G a_nearestRoot
    g_reaches := PySem.W.mg_of X G a_reaches
    g_readNumber := PySem.W.mg_of X G a_readNumber
    g_readAnswers := PySem.W.mg_of X G a_readAnswers
    g_readKind := PySem.W.mg_of X G a_readKind
    g_readRows := PySem.W.mg_of X G a_readRows
    g_readOperands := PySem.W.mg_of X G a_readOperands
    g_readProblem := PySem.W.mg_of X G a_readProblem
    g_readSheet := PySem.W.mg_of X G a_readSheet
    g_rightProduct := PySem.W.mg_of X G a_rightProduct
    g_rightQuotient := PySem.W.mg_of X G a_rightQuotient
    g_rightRoot := PySem.W.mg_of X G a_rightRoot
    g_rightAnswer := PySem.W.mg_of X G a_rightAnswer
    g_areRules := PySem.W.mg_of X G a_areRules
    g_markOf := PySem.W.mg_of X G a_markOf
    g_marksOf := PySem.W.mg_of X G a_marksOf
    g_areAllRight := PySem.W.mg_of X G a_areAllRight
    g_pointsOfMarks := PySem.W.mg_of X G a_pointsOfMarks
    g_pointsInTime := PySem.W.mg_of X G a_pointsInTime
    g_checkLength := PySem.W.mg_of X G a_checkLength
    g_mark := PySem.W.mg_of X G a_mark
    k_MINUS := ⟨_, PySem.W.mg_of X G v_MINUS⟩
    k_POINT := ⟨_, PySem.W.mg_of X G v_POINT⟩
    k_NOUGHT := ⟨_, PySem.W.mg_of X G v_NOUGHT⟩
    k_NINE := ⟨_, PySem.W.mg_of X G v_NINE⟩
    k_MOST_WHOLE := ⟨_, PySem.W.mg_of X G v_MOST_WHOLE⟩
    k_MOST_SCALE := ⟨_, PySem.W.mg_of X G v_MOST_SCALE⟩
    k_ANSWERS_RULE := ⟨_, PySem.W.mg_of X G v_ANSWERS_RULE⟩
    k_LINE_FEED := ⟨_, PySem.W.mg_of X G v_LINE_FEED⟩
    k_MOST_SECONDS := ⟨_, PySem.W.mg_of X G v_MOST_SECONDS⟩
    k_MOST_ANSWER := ⟨_, PySem.W.mg_of X G v_MOST_ANSWER⟩
    k_SHEET_RULE := ⟨_, PySem.W.mg_of X G v_SHEET_RULE⟩
    k_FEWEST_ROWS := ⟨_, PySem.W.mg_of X G v_FEWEST_ROWS⟩
    k_MOST_ROWS := ⟨_, PySem.W.mg_of X G v_MOST_ROWS⟩
    k_LEFT_OUT := ⟨_, PySem.W.mg_of X G v_LEFT_OUT⟩
    k_RIGHT := ⟨_, PySem.W.mg_of X G v_RIGHT⟩
    k_WRONG := ⟨_, PySem.W.mg_of X G v_WRONG⟩
    k_MOST_LIMIT := ⟨_, PySem.W.mg_of X G v_MOST_LIMIT⟩
    k_MOST_MINUS := ⟨_, PySem.W.mg_of X G v_MOST_MINUS⟩
    k_MOST_BONUS := ⟨_, PySem.W.mg_of X G v_MOST_BONUS⟩
    k_MINUTE := ⟨_, PySem.W.mg_of X G v_MINUTE⟩
    k_MOST_BYTES := ⟨_, PySem.W.mg_of X G v_MOST_BYTES⟩
    k_KIND_BY_BYTE := PySem.W.mg_of X G v_KIND_BY_BYTE
    o_KIND_BY_BYTE := ⟨ep_KIND_BY_BYTE, t0, u0, t1, u1, t2, u2, t3, u3, o_KIND_BY_BYTE⟩
    y_KIND_BY_BYTE := y_KIND_BY_BYTE
    b_range := PySem.W.mg_none_of X G b_range
    b_abs := PySem.W.mg_none_of X G b_abs
    b_len := PySem.W.mg_none_of X G b_len
    b_ord := PySem.W.mg_none_of X G b_ord
    b_sum := PySem.W.mg_none_of X G b_sum
    b_zip := PySem.W.mg_none_of X G b_zip
    b_max := PySem.W.mg_none_of X G b_max
  }
end Ab

/-! The program's reading as plain functions over the list handed in and a place. -/
namespace Ab
def pk (ns : List Int) (k : Nat) : Int := (ns[k]?).getD (-1)
def pd (ns : List Int) (k : Nat) : Int := if 48 ≤ pk ns k ∧ pk ns k ≤ 57 then pk ns k - 48 else -1
def exW (ns : List Int) : List Nat → Nat → Except Nat Nat
  | [], k => .ok k
  | c :: r, k => if pk ns k = (c : Int) then exW ns r (k + 1) else .error k
/-- some number from lo to hi begins with the digits of v -/
def ldB (lo hi v : Nat) : Bool := if v = 0 then lo == 0 else (List.range 50).any fun (j : Nat) => decide (v * 10 ^ j ≤ hi) && decide (lo < (v + 1) * 10 ^ j)
def rbl (ns : List Int) (lo hi st : Nat) : Nat → Nat → Nat → Nat × Nat
  | 0, v, k => (v, k)
  | f + 1, v, k => if 0 ≤ pd ns k ∧ (k = st ∨ 0 < v) ∧ ldB lo hi (v * 10 + (pd ns k).toNat) = true then rbl ns lo hi st f (v * 10 + (pd ns k).toNat) (k + 1) else (v, k)
def rb (ns : List Int) (lo hi k : Nat) : Except Nat (Nat × Nat) :=
  let x := rbl ns lo hi k (ns.length - k) 0 k
  if x.2 = k ∨ x.1 < lo then .error x.2 else .ok x
def MOST : Nat := 999999999999999999
def rowM (ns : List Int) (k : Nat) : Except Nat (Int × Nat) :=
  if pk ns k = 45 then (rb ns 1 MOST (k + 1)).map fun x => (-(x.1 : Int), x.2) else (rb ns 0 MOST k).map fun x => ((x.1 : Int), x.2)
def tlM (ns : List Int) (nn : Bool) : Nat → Nat → Nat → Nat → Nat × Nat × Nat
  | 0, u, m, k => (u, m, k)
  | f + 1, u, m, k => if 0 ≤ pd ns k ∧ ¬ (nn = true ∧ u * 10 + (pd ns k).toNat = 0 ∧ f = 0) then tlM ns nn f (u * 10 + (pd ns k).toNat) (m + 1) (k + 1) else (u, m, k)
def tailM (ns : List Int) (nn : Bool) (v k : Nat) : Except Nat (Nat × Nat × Nat) :=
  let x := tlM ns nn 9 v 0 k
  if x.2.1 = 0 then .error x.2.2 else .ok x
def signed (b : Bool) (u : Nat) : Int := if b = true then -(u : Int) else (u : Int)
/-- units, places, the place behind it -/
def decG (ns : List Int) (most : Nat) (below some_ : Bool) (k : Nat) : Except Nat (Int × Nat × Nat) :=
  let bel : Bool := below && decide (pk ns k = 45)
  let nn : Bool := bel || some_
  match rb ns 0 most (if bel = true then k + 1 else k) with
  | .error p => .error p
  | .ok (v, k2) =>
    if pk ns k2 = 46 then
      match tailM ns nn v (k2 + 1) with
      | .error p => .error p
      | .ok (u, m, k3) => if nn = true ∧ u = 0 then .error k3 else .ok (signed bel u, m, k3)
    else if nn = true ∧ v = 0 then .error k2 else .ok (signed bel v, 0, k2)
abbrev decM (ns : List Int) (below some_ : Bool) (k : Nat) : Except Nat (Int × Nat × Nat) := decG ns MOST below some_ k
inductive Kd where
  | sum | product | quotient | root
  deriving DecidableEq
def Kd.codes : Kd → List Nat
  | .sum => [115, 117, 109]
  | .product => [112, 114, 111, 100, 117, 99, 116]
  | .quotient => [113, 117, 111, 116, 105, 101, 110, 116]
  | .root => [114, 111, 111, 116]
def kdAt (c : Int) : Option Kd := if c = 115 then some .sum else if c = 112 then some .product else if c = 113 then some .quotient else if c = 114 then some .root else none
def kindM (ns : List Int) (k : Nat) : Except Nat (Kd × Nat) := match kdAt (pk ns k) with
  | none => .error k
  | some d => (exW ns d.codes k).map fun k' => (d, k')
def rowsM (ns : List Int) : Nat → Nat → Except Nat (List Int × Nat)
  | 0, k => .ok ([], k)
  | n + 1, k => match rowM ns k with
    | .error p => .error p
    | .ok (z, k1) => match exW ns [10] k1 with
      | .error p => .error p
      | .ok k2 => (rowsM ns n k2).map fun x => (z :: x.1, x.2)
def opsM (ns : List Int) (d : Kd) (k : Nat) : Except Nat (List (Int × Nat) × Nat) := match decM ns (decide (d ≠ .root)) false k with
  | .error p => .error p
  | .ok (u, m, k1) => match exW ns [32] k1 with
    | .error p => .error p
    | .ok k2 => if d = .root then .ok ([(u, m)], k2) else match decM ns true (decide (d = .quotient)) k2 with
      | .error p => .error p
      | .ok (u2, m2, k3) => (exW ns [32] k3).map fun k4 => ([(u, m), (u2, m2)], k4)
structure PM where
  pts : Nat
  kd : Kd
  nums : List (Int × Nat)
  pl : Nat
def rowsAll (ns : List Int) (k : Nat) : Except Nat (List Int × Nat) := match rb ns 2 64 k with
  | .error p => .error p
  | .ok (n, k1) => match exW ns [10] k1 with
    | .error p => .error p
    | .ok k2 => rowsM ns n k2
def probM (ns : List Int) (k : Nat) : Except Nat (PM × Nat) := match rb ns 1 999 k with
  | .error p => .error p
  | .ok (pts, k1) => match exW ns [32] k1 with
    | .error p => .error p
    | .ok k2 => match kindM ns k2 with
      | .error p => .error p
      | .ok (d, k3) => match exW ns [32] k3 with
        | .error p => .error p
        | .ok k4 => if d = .sum then (rowsAll ns k4).map fun x => (⟨pts, .sum, x.1.map fun z => (z, 0), 0⟩, x.2) else match opsM ns d k4 with
          | .error p => .error p
          | .ok (ds, k5) => match rb ns 0 9 k5 with
            | .error p => .error p
            | .ok (pl, k6) => (exW ns [10] k6).map fun k7 => (⟨pts, d, ds, pl⟩, k7)
def sheetM (ns : List Int) : Nat → Nat → Except Nat (List PM)
  | 0, k => .error k
  | f + 1, k => if k = ns.length then .ok [] else match probM ns k with
    | .error p => .error p
    | .ok (x, k1) => (sheetM ns f k1).map fun r => x :: r
end Ab

/-! Each reading goes on. -/
namespace Ab
theorem rbl_ge {ns : List Int} {lo hi st : Nat} : ∀ (f v k : Nat), k ≤ (rbl ns lo hi st f v k).2
  | 0, v, k => Nat.le_refl _
  | f + 1, v, k => by
    unfold rbl
    split
    · exact Nat.le_trans (Nat.le_succ k) (rbl_ge f _ (k + 1))
    · exact Nat.le_refl _
theorem rb_gt {ns : List Int} {lo hi k : Nat} {x : Nat × Nat} (h : rb ns lo hi k = .ok x) : k < x.2 := by
  unfold rb at h
  dsimp only at h
  split at h
  · cases h
  · rename_i c
    injection h with h
    have g := rbl_ge (ns := ns) (lo := lo) (hi := hi) (st := k) (ns.length - k) 0 k
    rw [← h]
    omega
theorem exW_ge {ns : List Int} : ∀ (cs : List Nat) (k k' : Nat), exW ns cs k = .ok k' → k ≤ k'
  | [], k, k', h => by injection h with h; omega
  | c :: cs, k, k', h => by
    unfold exW at h
    split at h
    · exact Nat.le_trans (Nat.le_succ k) (exW_ge cs (k + 1) k' h)
    · cases h
theorem map_ok {α β : Type} {x : Except Nat α} {f : α → β} {y : β} (h : x.map f = .ok y) : ∃ a, x = .ok a ∧ f a = y := by
  cases x with
  | error p => cases h
  | ok a => injection h with h; exact ⟨a, rfl, h⟩
theorem rowM_ge {ns : List Int} {k : Nat} {x : Int × Nat} (h : rowM ns k = .ok x) : k ≤ x.2 := by
  unfold rowM at h
  split at h
  · obtain ⟨y, e, rfl⟩ := map_ok h
    have := rb_gt e
    dsimp only
    omega
  · obtain ⟨y, e, rfl⟩ := map_ok h
    have := rb_gt e
    dsimp only
    omega
theorem tlM_ge {ns : List Int} {nn : Bool} : ∀ (f u m k : Nat), k ≤ (tlM ns nn f u m k).2.2
  | 0, u, m, k => Nat.le_refl _
  | f + 1, u, m, k => by
    unfold tlM
    split
    · exact Nat.le_trans (Nat.le_succ k) (tlM_ge f _ _ (k + 1))
    · exact Nat.le_refl _
theorem tailM_ge {ns : List Int} {nn : Bool} {v k : Nat} {x : Nat × Nat × Nat} (h : tailM ns nn v k = .ok x) : k ≤ x.2.2 := by
  unfold tailM at h
  dsimp only at h
  split at h
  · cases h
  · injection h with h
    rw [← h]
    exact tlM_ge _ _ _ _
theorem decM_ge {ns : List Int} {most : Nat} {b s : Bool} {k : Nat} {x : Int × Nat × Nat} (h : decG ns most b s k = .ok x) : k ≤ x.2.2 := by
  unfold decG at h
  dsimp only at h
  split at h
  · cases h
  · rename_i v k2 e
    have g := rb_gt e
    have g' : k ≤ (if (b && decide (pk ns k = 45)) = true then k + 1 else k) := by split <;> omega
    dsimp only at g
    split at h
    · split at h
      · cases h
      · rename_i u m k3 e2
        have g2 := tailM_ge e2
        dsimp only at g2
        split at h
        · cases h
        · injection h with h
          rw [← h]
          dsimp only
          omega
    · split at h
      · cases h
      · injection h with h
        rw [← h]
        dsimp only
        omega
theorem kindM_ge {ns : List Int} {k : Nat} {x : Kd × Nat} (h : kindM ns k = .ok x) : k ≤ x.2 := by
  unfold kindM at h
  split at h
  · cases h
  · obtain ⟨y, e, rfl⟩ := map_ok h
    exact exW_ge _ _ _ e
theorem rowsM_ge {ns : List Int} : ∀ (n k : Nat) (x : List Int × Nat), rowsM ns n k = .ok x → k ≤ x.2
  | 0, k, x, h => by injection h with h; rw [← h]; exact Nat.le_refl _
  | n + 1, k, x, h => by
    unfold rowsM at h
    split at h
    · cases h
    · rename_i z k1 e1
      split at h
      · cases h
      · rename_i k2 e2
        obtain ⟨y, e, rfl⟩ := map_ok h
        have g1 := rowM_ge e1
        have g2 := exW_ge _ _ _ e2
        have g3 := rowsM_ge n k2 y e
        dsimp only at g1 ⊢
        omega
theorem rowsAll_ge {ns : List Int} {k : Nat} {x : List Int × Nat} (h : rowsAll ns k = .ok x) : k ≤ x.2 := by
  unfold rowsAll at h
  split at h
  · cases h
  · rename_i n k1 e1
    split at h
    · cases h
    · rename_i k2 e2
      have g1 := rb_gt e1
      have g2 := exW_ge _ _ _ e2
      have g3 := rowsM_ge _ _ _ h
      dsimp only at g1
      omega
theorem opsM_ge {ns : List Int} {d : Kd} {k : Nat} {x : List (Int × Nat) × Nat} (h : opsM ns d k = .ok x) : k ≤ x.2 := by
  unfold opsM at h
  split at h
  · cases h
  · rename_i u m k1 e1
    split at h
    · cases h
    · rename_i k2 e2
      have g1 := decM_ge e1
      have g2 := exW_ge _ _ _ e2
      dsimp only at g1
      split at h
      · injection h with h
        rw [← h]
        dsimp only
        omega
      · split at h
        · cases h
        · rename_i u2 m2 k3 e3
          have g3 := decM_ge e3
          dsimp only at g3
          obtain ⟨y, e, rfl⟩ := map_ok h
          have g4 := exW_ge _ _ _ e
          dsimp only
          omega
theorem probM_gt {ns : List Int} {k : Nat} {x : PM × Nat} (h : probM ns k = .ok x) : k < x.2 := by
  unfold probM at h
  split at h
  · cases h
  · rename_i pts k1 e1
    have g1 := rb_gt e1
    dsimp only at g1
    split at h
    · cases h
    · rename_i k2 e2
      have g2 := exW_ge _ _ _ e2
      split at h
      · cases h
      · rename_i d k3 e3
        have g3 := kindM_ge e3
        dsimp only at g3
        split at h
        · cases h
        · rename_i k4 e4
          have g4 := exW_ge _ _ _ e4
          split at h
          · obtain ⟨y, e, rfl⟩ := map_ok h
            have g5 := rowsAll_ge e
            dsimp only
            omega
          · split at h
            · cases h
            · rename_i ds k5 e5
              have g5 := opsM_ge e5
              dsimp only at g5
              split at h
              · cases h
              · rename_i pl k6 e6
                have g6 := rb_gt e6
                dsimp only at g6
                obtain ⟨y, e, rfl⟩ := map_ok h
                have g7 := exW_ge _ _ _ e
                dsimp only
                omega
end Ab

set_option Elab.async false
set_option linter.all false
set_option maxRecDepth 100000
set_option maxHeartbeats 2000000
namespace Ab
open PySem PySem.Spec PyProof.Rows L2
/-! ### the objects -/
def rf (t : Addr) (rule k : Int) : List (Str × V) := [("text", .ref t), ("rule", .int rule), ("at", .int k)]
def df (u s : Int) : List (Str × V) := [("units", .int u), ("scale", .int s)]
def pf (p : Int) (d : Str) (l : Addr) (q : Int) : List (Str × V) := [("points", .int p), ("kind", .str d), ("numbers", .ref l), ("places", .int q)]
theorem rf_text (t : Addr) (rule k : Int) : (rf t rule k).lookup ("text" : Str) = some (.ref t) := rfl
theorem rf_rule (t : Addr) (rule k : Int) : (rf t rule k).lookup ("rule" : Str) = some (.int rule) := rfl
theorem rf_at (t : Addr) (rule k : Int) : (rf t rule k).lookup ("at" : Str) = some (.int k) := rfl
theorem rf_put (t : Addr) (rule k j : Int) : putF "at" (.int j) (rf t rule k) = rf t rule j := rfl
theorem df_units (u s : Int) : (df u s).lookup ("units" : Str) = some (.int u) := rfl
theorem df_scale (u s : Int) : (df u s).lookup ("scale" : Str) = some (.int s) := rfl
theorem df_putU (u s j : Int) : putF "units" (.int j) (df u s) = df j s := rfl
theorem df_putS (u s j : Int) : putF "scale" (.int j) (df u s) = df u j := rfl
theorem rf_no {m : Str} (t : Addr) (rule k : Int) (h : m ∉ (["text", "rule", "at"] : List Str)) : (rf t rule k).lookup m = none := by
  simp only [List.mem_cons, List.not_mem_nil, or_false, not_or] at h
  unfold rf
  rw [List.lookup_cons, beq_eq_false_iff_ne.mpr h.1, List.lookup_cons, beq_eq_false_iff_ne.mpr h.2.1, List.lookup_cons, beq_eq_false_iff_ne.mpr h.2.2]
  rfl
/-- all that is tracked, but what stands at r, is as it was -/
def Keep (r : Addr) (H H' : Hp) : Prop := ∀ b o, H b = some o → b ≠ r → H' b = some o
theorem Keep.refl (r : Addr) (H : Hp) : Keep r H H := fun _ _ h _ => h
theorem Keep.trans {r : Addr} {H H1 H2 : Hp} (a : Keep r H H1) (b : Keep r H1 H2) : Keep r H H2 := fun c o h n => b c o (a c o h n) n
theorem Keep.upd (r : Addr) (H : Hp) (o : HO) : Keep r H (L2.upd H r o) := fun b u h n => by rw [upd_ne n]; exact h
theorem Keep.new {r p : Addr} {H : Hp} {o : HO} (h : H p = Option.none) : Keep r H (L2.upd H p o) := fun b u e _ => by rw [upd_ne (ne_of_none e h)]; exact e
/-- a Reader of the text at t stands at r, at the place k -/
structure RdAt (K : PySem.W.Frag) (a : Ad) (H : Hp) (r t : Addr) (ns : List Int) (rule : Int) (k : Nat) : Prop where
  ins : ∃ dx, H r = some (.ins a.cRd dx (rf t rule (k : Int)))
  txt : SqL K H t (ns.map V.int)
  le : k ≤ ns.length
theorem RdAt.go {K : PySem.W.Frag} {a : Ad} {H H' : Hp} {r t : Addr} {ns : List Int} {rule : Int} {k j : Nat} (R : RdAt K a H r t ns rule k) (hk : Keep r H H') (h : ∃ dx, H' r = some (.ins a.cRd dx (rf t rule (j : Int)))) (hj : j ≤ ns.length) : RdAt K a H' r t ns rule j := by
  obtain ⟨dx, hr⟩ := R.ins
  refine ⟨h, ?_, hj⟩
  rcases R.txt with (z | ⟨o, z⟩) | z
  · exact .inl (.inl (hk _ _ z (ne_of z hr (by intro q; cases q))))
  · exact .inl (.inr ⟨o, hk _ _ z (ne_of z hr (by intro q; cases q))⟩)
  · exact .inr z
/-- .. where nothing at r has changed -/
theorem RdAt.same {K : PySem.W.Frag} {a : Ad} {H H' : Hp} {r t : Addr} {ns : List Int} {rule : Int} {k : Nat} (R : RdAt K a H r t ns rule k) (hs : Same H H') : RdAt K a H' r t ns rule k :=
  let ⟨dx, hr⟩ := R.ins
  R.go (fun b o h _ => hs b o h) ⟨dx, hs _ _ hr⟩ R.le
def Good (P : Program) (w : World) (K : PySem.W.Frag) (mg : Str → Option Value) (base : Heap) (CX : CXT) (k : Nat) (f : Addr) (ps : List Str) (sp : Sp) : Prop :=
  ∃ fd, FnOk P w K mg base CX k f fd ps sp ∧ Binds K fd ps [] ∧ PySem.W.keepIn K (.ref f) = true
/-- a fault is told: what is wanted of it -/
def Thr (a : Ad) (E : XK) (rule : Int) (p : Nat) : Prop := ∀ (H' : Hp) (dx l : Addr), H' dx = some (.xd [("answered", .ref l)]) → H' l = some (.lst [.int (-5), .int rule, .int (p : Int)]) → E (.ref a.cFa) (some dx) H'
/-! ### promises -/
def spDec (a : Ad) : Sp := fun vs H Q _ => ∃ (p dx : Addr) (u s : Int), vs = [.ref p, .int u, .int s] ∧ H p = some (.ins a.cDec dx []) ∧ ∀ H' : Hp, (∃ dx, H' p = some (.ins a.cDec dx (df u s))) → Keep p H H' → Q .non H'
def spRd (a : Ad) : Sp := fun vs H Q _ => ∃ (p dx t : Addr) (rule : Int), vs = [.ref p, .ref t, .int rule] ∧ H p = some (.ins a.cRd dx []) ∧ ∀ H' : Hp, (∃ dx, H' p = some (.ins a.cRd dx (rf t rule 0))) → Keep p H H' → Q .non H'
def spPr (a : Ad) : Sp := fun vs H Q _ => ∃ (p dx l : Addr) (n q : Int) (d : Str), vs = [.ref p, .int n, .str d, .ref l, .int q] ∧ H p = some (.ins a.cPr dx []) ∧ ∀ H' : Hp, (∃ dx, H' p = some (.ins a.cPr dx (pf n d l q))) → Keep p H H' → Q .non H'
def spFa (a : Ad) : Sp := fun vs H Q _ => ∃ (p : Addr) (r q : Int), vs = [.ref p, .int r, .int q] ∧ H p = some (xo p a.cFa none) ∧ ∀ (H' : Hp) (dx l : Addr), H' p = some (xo p a.cFa (some dx)) → dx ≠ p → l ≠ p → H' dx = some (.xd [("answered", .ref l)]) → H' l = some (.lst [.int (-5), .int r, .int q]) → Q .non H'
def spTL (a : Ad) : Sp := fun vs H Q _ => ∃ (p : Addr), vs = [.ref p] ∧ H p = some (xo p a.cTL none) ∧ ∀ (H' : Hp) (dx l : Addr), H' p = some (xo p a.cTL (some dx)) → dx ≠ p → l ≠ p → H' dx = some (.xd [("answered", .ref l)]) → H' l = some (.lst [.int (-6)]) → Q .non H'
def spDone (K : PySem.W.Frag) (a : Ad) : Sp := fun vs H Q _ => ∃ r t ns rule k, vs = [.ref r] ∧ RdAt K a H r t ns rule k ∧ Q (.bl (decide (k = ns.length))) H
def spPeek (K : PySem.W.Frag) (a : Ad) : Sp := fun vs H Q _ => ∃ r t ns rule k, vs = [.ref r] ∧ RdAt K a H r t ns rule k ∧ Q (.int (pk ns k)) H
def spPkd (K : PySem.W.Frag) (a : Ad) : Sp := fun vs H Q _ => ∃ r t ns rule k, vs = [.ref r] ∧ RdAt K a H r t ns rule k ∧ Q (.int (pd ns k)) H
def spSkip (K : PySem.W.Frag) (a : Ad) : Sp := fun vs H Q _ => ∃ r t ns rule k c, vs = [.ref r, .int c] ∧ 0 ≤ c ∧ RdAt K a H r t ns rule k ∧ (pk ns k ≠ c → Q (.bl false) H) ∧ (pk ns k = c → ∀ H' : Hp, RdAt K a H' r t ns rule (k + 1) → Keep r H H' → Q (.bl true) H')
def spRch : Sp := fun vs H Q _ => ∃ (v lo hi : Nat), vs = [.int (v : Int), .int (lo : Int), .int (hi : Int)] ∧ hi < 10 ^ 45 ∧ Q (.bl (ldB lo hi v)) H
section
variable {P : Program} {w : World} {K : PySem.W.Frag} {mg : Str → Option Value} {base : Heap} {a : Ad}
theorem sc_initDec : FnScope ["self", "units", "scale"] ["self", "units", "scale"] (defScope s_initDec) := ⟨rfl, rfl, rfl, by decide +kernel, rfl, by decide +kernel, by decide +kernel⟩
theorem ok_initDec (T : Tx K mg a) : Good P w K mg base CX0 1 a.f_initDec ["self", "units", "scale"] (spDec a) := by
  obtain ⟨fd, F, b⟩ := T.initDec.ex
  refine ⟨fd, F.ok sc_initDec (fun vs H Q E h => ?_) (fun cdv A outer s H vs Q E hr h => ?_), b, F.kp⟩
  · obtain ⟨p, dx, u, s, rfl, _⟩ := h; rfl
  · obtain ⟨p, dx, u, s', rfl, hp, k⟩ := h
    refine ⟨_, pss_cons (ps_fld (pv 0) (pv 1) rfl) (pss_one (ps_fld (pv 0) (pv 2) rfl)), ?_⟩
    refine ⟨_, rfl, _, rfl, p, a.cDec, dx, [], rfl, hp, T.pDec.cl, T.pDec.no _ (by simp), (by show 0 < 1000; decide), ?_⟩
    refine ⟨_, rfl, _, rfl, p, a.cDec, dx, _, rfl, upd_same, T.pDec.cl, T.pDec.no _ (by simp), (by show 1 < 1000; decide), ?_⟩
    exact k _ ⟨dx, upd_same⟩ (Keep.trans (Keep.upd _ _ _) (Keep.upd _ _ _))

theorem sc_initRd : FnScope ["self", "text", "rule"] ["self", "text", "rule"] (defScope s_initRd) := ⟨rfl, rfl, rfl, by decide +kernel, rfl, by decide +kernel, by decide +kernel⟩
theorem ok_initRd (T : Tx K mg a) : Good P w K mg base CX0 1 a.f_initRd ["self", "text", "rule"] (spRd a) := by
  obtain ⟨fd, F, b⟩ := T.initRd.ex
  refine ⟨fd, F.ok sc_initRd (fun vs H Q E h => ?_) (fun cdv A outer s H vs Q E hr h => ?_), b, F.kp⟩
  · obtain ⟨p, dx, t, r, rfl, _⟩ := h; rfl
  · obtain ⟨p, dx, t, r, rfl, hp, k⟩ := h
    refine ⟨_, pss_cons (ps_fld (pv 0) (pv 1) rfl) (pss_cons (ps_fld (pv 0) (pv 2) rfl) (pss_one (ps_fld (pv 0) pe_int rfl))), ?_⟩
    refine ⟨_, rfl, _, rfl, p, a.cRd, dx, [], rfl, hp, T.pRd.cl, T.pRd.no _ (by simp), (by show 0 < 1000; decide), ?_⟩
    refine ⟨_, rfl, _, rfl, p, a.cRd, dx, _, rfl, upd_same, T.pRd.cl, T.pRd.no _ (by simp), (by show 1 < 1000; decide), ?_⟩
    refine ⟨_, rfl, p, a.cRd, dx, _, rfl, upd_same, T.pRd.cl, T.pRd.no _ (by simp), (by show 2 < 1000; decide), ?_⟩
    exact k _ ⟨dx, upd_same⟩ (Keep.trans (Keep.trans (Keep.upd _ _ _) (Keep.upd _ _ _)) (Keep.upd _ _ _))
theorem sc_initPr : FnScope ["self", "points", "kind", "numbers", "places"] ["self", "points", "kind", "numbers", "places"] (defScope s_initPr) := ⟨rfl, rfl, rfl, by decide +kernel, rfl, by decide +kernel, by decide +kernel⟩
theorem ok_initPr (T : Tx K mg a) : Good P w K mg base CX0 1 a.f_initPr ["self", "points", "kind", "numbers", "places"] (spPr a) := by
  obtain ⟨fd, F, b⟩ := T.initPr.ex
  refine ⟨fd, F.ok sc_initPr (fun vs H Q E h => ?_) (fun cdv A outer s H vs Q E hr h => ?_), b, F.kp⟩
  · obtain ⟨p, dx, l, n, q, d, rfl, _⟩ := h; rfl
  · obtain ⟨p, dx, l, n, q, d, rfl, hp, k⟩ := h
    refine ⟨_, pss_cons (ps_fld (pv 0) (pv 1) rfl) (pss_cons (ps_fld (pv 0) (pv 2) rfl) (pss_cons (ps_fld (pv 0) (pv 3) rfl) (pss_one (ps_fld (pv 0) (pv 4) rfl)))), ?_⟩
    refine ⟨_, rfl, _, rfl, p, a.cPr, dx, [], rfl, hp, T.pPr.cl, T.pPr.no _ (by simp), (by show 0 < 1000; decide), ?_⟩
    refine ⟨_, rfl, _, rfl, p, a.cPr, dx, _, rfl, upd_same, T.pPr.cl, T.pPr.no _ (by simp), (by show 1 < 1000; decide), ?_⟩
    refine ⟨_, rfl, _, rfl, p, a.cPr, dx, _, rfl, upd_same, T.pPr.cl, T.pPr.no _ (by simp), (by show 2 < 1000; decide), ?_⟩
    refine ⟨_, rfl, _, rfl, p, a.cPr, dx, _, rfl, upd_same, T.pPr.cl, T.pPr.no _ (by simp), (by show 3 < 1000; decide), ?_⟩
    exact k _ ⟨dx, upd_same⟩ (Keep.trans (Keep.trans (Keep.trans (Keep.upd _ _ _) (Keep.upd _ _ _)) (Keep.upd _ _ _)) (Keep.upd _ _ _))
theorem sc_initFa : FnScope ["self", "rule", "place"] ["self", "rule", "place"] (defScope s_initFa) := ⟨rfl, rfl, rfl, by decide +kernel, rfl, by decide +kernel, by decide +kernel⟩
theorem ok_initFa (T : Tx K mg a) : Good P w K mg base CX0 1 a.f_initFa ["self", "rule", "place"] (spFa a) := by
  obtain ⟨fd, F, b⟩ := T.initFa.ex
  refine ⟨fd, F.ok sc_initFa (fun vs H Q E h => ?_) (fun cdv A outer s H vs Q E hr h => ?_), b, F.kp⟩
  · obtain ⟨p, r, q, rfl, _⟩ := h; rfl
  · obtain ⟨p, r, q, rfl, hp, k⟩ := h
    refine ⟨_, pss_one (ps_fldX (pv 0) (pe_lst (pa_cons (pe_un un_neg pe_int) (pa_cons (pv 1) (pa_cons (pv 2) pa_nil)))) rfl), ?_⟩
    refine ⟨_, rfl, _, rfl, _, rfl, (by show 3 ≤ sizeLine; decide), fun l hl => ?_⟩
    have npl : p ≠ l := ne_of_none hp hl
    refine ⟨_, rfl, p, a.cFa, _, rfl, (by rw [upd_ne npl]; exact hp), T.xFa, fun dx hdx nd => ?_⟩
    have nld : l ≠ dx := fun z => by rw [← z, upd_same] at hdx; cases hdx
    exact k _ dx l upd_same nd (Ne.symm npl) (by rw [upd_ne nd, upd_same]) (by rw [upd_ne (Ne.symm npl), upd_ne nld, upd_same])
theorem sc_initTL : FnScope ["self"] ["self"] (defScope s_initTL) := ⟨rfl, rfl, rfl, by decide +kernel, rfl, by decide +kernel, by decide +kernel⟩
theorem ok_initTL (T : Tx K mg a) : Good P w K mg base CX0 1 a.f_initTL ["self"] (spTL a) := by
  obtain ⟨fd, F, b⟩ := T.initTL.ex
  refine ⟨fd, F.ok sc_initTL (fun vs H Q E h => ?_) (fun cdv A outer s H vs Q E hr h => ?_), b, F.kp⟩
  · obtain ⟨p, rfl, _⟩ := h; rfl
  · obtain ⟨p, rfl, hp, k⟩ := h
    refine ⟨_, pss_one (ps_fldX (pv 0) (pe_lst (pa_cons (pe_un un_neg pe_int) pa_nil)) rfl), ?_⟩
    refine ⟨_, rfl, (by show 1 ≤ sizeLine; decide), fun l hl => ?_⟩
    have npl : p ≠ l := ne_of_none hp hl
    refine ⟨_, rfl, p, a.cTL, _, rfl, (by rw [upd_ne npl]; exact hp), T.xTL, fun dx hdx nd => ?_⟩
    have nld : l ≠ dx := fun z => by rw [← z, upd_same] at hdx; cases hdx
    exact k _ dx l upd_same nd (Ne.symm npl) (by rw [upd_ne nd, upd_same]) (by rw [upd_ne (Ne.symm npl), upd_ne nld, upd_same])
theorem sc_isDone : FnScope ["self"] ["self"] (defScope s_isDone) := ⟨rfl, rfl, rfl, by decide +kernel, rfl, by decide +kernel, by decide +kernel⟩
theorem ok_isDone (T : Tx K mg a) : Good P w K mg base CX0 1 a.f_isDone ["self"] (spDone K a) := by
  obtain ⟨fd, F, b⟩ := T.isDone.ex
  refine ⟨fd, F.ok sc_isDone (fun vs H Q E h => ?_) (fun cdv A outer s H vs Q E hr h => ?_), b, F.kp⟩
  · obtain ⟨r, t, ns, rule, k, rfl, _⟩ := h; rfl
  · obtain ⟨r, t, ns, rule, k, rfl, R, q⟩ := h
    obtain ⟨dx, hR⟩ := R.ins
    refine ⟨_, pss_one (ps_ret (pe_cmpR op_eq (pe_fld (pv 0) rfl) (pe_callB call_len_seq (by rfl) T.b_len PySem.boot_len (pa_cons (pe_fld (pv 0) rfl) pa_nil)) (nomark _))), ?_⟩
    refine ⟨_, rfl, r, a.cRd, dx, _, _, rfl, hR, T.pRd.cl, T.pRd.no _ (by simp), rf_at _ _ _, ?_⟩
    refine ⟨_, rfl, r, a.cRd, dx, _, _, rfl, hR, T.pRd.cl, T.pRd.no _ (by simp), rf_text _ _ _, ?_⟩
    refine ⟨t, _, rfl, .inl R.txt, rfl, ?_⟩
    have e : decide (V.int (k : Int) = V.int ((ns.map V.int).length : Nat)) = decide (k = ns.length) := by
      rw [List.length_map]
      by_cases z : k = ns.length
      · rw [z]; simp
      · rw [decide_eq_false z, decide_eq_false fun y => z (by injection y with y; omega)]
    rw [e]
    exact q

theorem pk_at {ns : List Int} {k : Nat} (h : k < ns.length) : (ns.map V.int)[k]? = some (.int (pk ns k)) := by
  unfold pk
  rw [List.getElem?_map, List.getElem?_eq_getElem h]
  rfl
theorem pk_end (ns : List Int) : pk ns ns.length = -1 := by
  unfold pk
  rw [List.getElem?_eq_none (Nat.le_refl _)]
  rfl
theorem sc_peek : FnScope ["self"] ["self"] (defScope s_peek) := ⟨rfl, rfl, rfl, by decide +kernel, rfl, by decide +kernel, by decide +kernel⟩
theorem ok_peek (T : Tx K mg a) : Good P w K mg base CX0 2 a.f_peek ["self"] (spPeek K a) := by
  obtain ⟨fd, F, b⟩ := T.peek.ex
  obtain ⟨fd1, G1, b1, kp1⟩ := ok_isDone (P := P) (w := w) (base := base) T
  refine ⟨fd, F.ok sc_peek (fun vs H Q E h => ?_) (fun cdv A outer s H vs Q E hr h => ?_), b, F.kp⟩
  · obtain ⟨r, t, ns, rule, k, rfl, _⟩ := h; rfl
  · obtain ⟨r, t, ns, rule, k, rfl, R, q⟩ := h
    obtain ⟨dx, hR⟩ := R.ins
    refine ⟨_, pss_cons (ps_if (pt_val (pe_meth0 (pv 0) T.pRd.cl T.m_isDone G1 hr b1 .nil pass0)) (pss_one (ps_ret (pe_un un_neg pe_int))) pss_nil)
      (pss_one (ps_ret (pe_ix ix_list (pe_fld (pv 0) rfl) (pe_fld (pv 0) rfl) (fun _ _ => rfl)))), ?_⟩
    refine ⟨_, rfl, r, dx, _, rfl, hR, rf_no _ _ _ (by decide +kernel), r, t, ns, rule, k, rfl, R, _, rfl, ?_⟩
    by_cases z : k = ns.length
    · rw [decide_eq_true z]
      refine iteT ⟨_, rfl, ?_⟩
      rw [z, pk_end] at q
      exact q
    · rw [decide_eq_false z]
      refine iteF ?_
      have hk : k < ns.length := by have := R.le; omega
      refine ⟨_, rfl, r, a.cRd, dx, _, _, rfl, hR, T.pRd.cl, T.pRd.no _ (by simp), rf_text _ _ _, ?_⟩
      refine ⟨_, rfl, r, a.cRd, dx, _, _, rfl, hR, T.pRd.cl, T.pRd.no _ (by simp), rf_at _ _ _, ?_⟩
      exact ⟨t, _, _, _, rfl, rfl, R.txt, atI_nat (pk_at hk), q⟩
theorem sc_peekDigit : FnScope ["self", "byte"] ["self"] (defScope s_peekDigit) := ⟨rfl, rfl, rfl, by decide +kernel, rfl, by decide +kernel, by decide +kernel⟩
theorem ok_peekDigit (T : Tx K mg a) : Good P w K mg base CX0 3 a.f_peekDigit ["self"] (spPkd K a) := by
  obtain ⟨fd, F, b⟩ := T.peekDigit.ex
  obtain ⟨fd1, G1, b1, kp1⟩ := ok_peek (P := P) (w := w) (base := base) T
  obtain ⟨t1, hN⟩ := T.k_NOUGHT
  obtain ⟨t2, hM⟩ := T.k_NINE
  refine ⟨fd, F.ok sc_peekDigit (fun vs H Q E h => ?_) (fun cdv A outer s H vs Q E hr h => ?_), b, F.kp⟩
  · obtain ⟨r, t, ns, rule, k, rfl, _⟩ := h; rfl
  · obtain ⟨r, t, ns, rule, k, rfl, R, q⟩ := h
    obtain ⟨dx, hR⟩ := R.ins
    refine ⟨_, pss_cons (ps_set (i := 1) sc_peekDigit.nd rfl (Or.inl rfl) (pe_meth0 (pv 0) T.pRd.cl T.m_peek G1 hr b1 .nil pass0))
      (pss_cons (ps_if (pt_chain op_le op_le (pe_glob (v := .int 48) (by rfl) hN ⟨_, rfl⟩) (pv 1) (pe_glob (v := .int 57) (by rfl) hM ⟨_, rfl⟩)) (pss_one (ps_ret (pe_op op_sub (pv 1) (pe_glob (v := .int 48) (by rfl) hN ⟨_, rfl⟩)))) pss_nil)
      (pss_one (ps_ret (pe_un un_neg pe_int)))), ?_⟩
    refine ⟨_, rfl, r, dx, _, rfl, hR, rf_no _ _ _ (by decide +kernel), r, t, ns, rule, k, rfl, R, ?_⟩
    refine ⟨_, rfl, _, _, rfl, rfl, _, rfl, ?_⟩
    by_cases z : 48 ≤ pk ns k
    · rw [decide_eq_true z]
      refine iteT ⟨_, _, rfl, rfl, _, rfl, ?_⟩
      by_cases z2 : pk ns k ≤ 57
      · rw [decide_eq_true z2]
        refine iteT ⟨_, rfl, _, _, rfl, rfl, ?_⟩
        have e : pd ns k = pk ns k - 48 := by unfold pd; rw [if_pos ⟨z, z2⟩]
        rw [e] at q
        exact q
      · rw [decide_eq_false z2]
        refine iteF ⟨_, rfl, ?_⟩
        have e : pd ns k = -1 := by unfold pd; rw [if_neg fun y => z2 y.2]
        rw [e] at q
        exact q
    · rw [decide_eq_false z]
      refine iteF ⟨_, rfl, iteF ⟨_, rfl, ?_⟩⟩
      have e : pd ns k = -1 := by unfold pd; rw [if_neg fun y => z y.1]
      rw [e] at q
      exact q
theorem sc_skip : FnScope ["self", "byte"] ["self", "byte"] (defScope s_skip) := ⟨rfl, rfl, rfl, by decide +kernel, rfl, by decide +kernel, by decide +kernel⟩
theorem ok_skip (T : Tx K mg a) : Good P w K mg base CX0 3 a.f_skip ["self", "byte"] (spSkip K a) := by
  obtain ⟨fd, F, b⟩ := T.skip.ex
  obtain ⟨fd1, G1, b1, kp1⟩ := ok_peek (P := P) (w := w) (base := base) T
  refine ⟨fd, F.ok sc_skip (fun vs H Q E h => ?_) (fun cdv A outer s H vs Q E hr h => ?_), b, F.kp⟩
  · obtain ⟨r, t, ns, rule, k, c, rfl, _⟩ := h; rfl
  · obtain ⟨r, t, ns, rule, k, c, rfl, hc, R, q1, q2⟩ := h
    obtain ⟨dx, hR⟩ := R.ins
    refine ⟨_, pss_cons (ps_if (pt_cmpR op_ne (pe_meth0 (pv 0) T.pRd.cl T.m_peek G1 hr b1 .nil pass0) (pv 1) (nomark _)) (pss_one (ps_ret pe_bl)) pss_nil)
      (pss_cons (ps_fldaug (pv 0) pe_int in_add) (pss_one (ps_ret pe_bl))), ?_⟩
    refine ⟨_, rfl, r, dx, _, rfl, hR, rf_no _ _ _ (by decide +kernel), r, t, ns, rule, k, rfl, R, _, rfl, rfl, _, rfl, ?_⟩
    by_cases z : pk ns k = c
    · rw [decide_eq_true (by rw [z] : V.int (pk ns k) = V.int c)]
      refine iteF ?_
      have hk : k < ns.length := by
        rcases Nat.lt_or_ge k ns.length with y | y
        · exact y
        · have e : k = ns.length := Nat.le_antisymm R.le y
          rw [e, pk_end] at z
          omega
      refine ⟨_, rfl, r, a.cRd, dx, _, _, rfl, hR, T.pRd.cl, T.pRd.no _ (by simp), rf_at _ _ _, _, _, rfl, rfl, dx, _, hR, (by show 3 < 1000; decide), ?_⟩
      refine q2 z _ (R.go (Keep.upd _ _ _) ⟨dx, ?_⟩ hk) (Keep.upd _ _ _)
      rw [upd_same, rf_put]
      have e : ((k + 1 : Nat) : Int) = (k : Int) + 1 := by omega
      rw [e]
    · rw [decide_eq_false fun y => z (by injection y)]
      exact iteT (q1 z)
end
end Ab

set_option Elab.async false
set_option linter.all false
set_option maxRecDepth 100000
set_option maxHeartbeats 2000000
namespace Ab
open PySem PySem.Spec PyProof.Rows L2
theorem pow_small {j v hi : Nat} (hv : 0 < v) (h : v * 10 ^ j ≤ hi) (hb : hi < 10 ^ 45) : j < 50 := by
  rcases Nat.lt_or_ge j 50 with z | z
  · exact z
  · have h1 : 10 ^ 50 ≤ 10 ^ j := Nat.pow_le_pow_right (by decide) z
    have h2 : 1 * 10 ^ j ≤ v * 10 ^ j := Nat.mul_le_mul_right _ hv
    omega
theorem ldB_zero {lo hi : Nat} : ldB lo hi 0 = (lo == 0) := rfl
theorem ldB_true {lo hi v j : Nat} (hv : 0 < v) (hb : hi < 10 ^ 45) (h1 : v * 10 ^ j ≤ hi) (h2 : lo < (v + 1) * 10 ^ j) : ldB lo hi v = true := by
  unfold ldB
  rw [if_neg (by omega), List.any_eq_true]
  exact ⟨j, List.mem_range.mpr (pow_small hv h1 hb), by simp [h1, h2]⟩
theorem ldB_false {lo hi v j : Nat} (hv : 0 < v) (h1 : hi < v * 10 ^ j) (h2 : ∀ i, i < j → ¬ lo < (v + 1) * 10 ^ i) : ldB lo hi v = false := by
  unfold ldB
  rw [if_neg (by omega), List.any_eq_false]
  intro i _
  simp only [Bool.and_eq_true, decide_eq_true_eq, not_and]
  intro q
  rcases Nat.lt_or_ge i j with z | z
  · exact h2 i z
  · have : v * 10 ^ j ≤ v * 10 ^ i := Nat.mul_le_mul_left _ (Nat.pow_le_pow_right (by decide) z)
    omega
section
variable {P : Program} {w : World} {K : PySem.W.Frag} {mg : Str → Option Value} {base : Heap} {a : Ad}
theorem sc_reaches : FnScope ["value", "low", "high", "least", "most"] ["value", "low", "high"] (defScope s_reaches) := ⟨rfl, rfl, rfl, by decide +kernel, rfl, by decide +kernel, by decide +kernel⟩
theorem ok_reaches (T : Tx K mg a) : Good P w K mg base CX0 1 a.f_reaches ["value", "low", "high"] spRch := by
  obtain ⟨fd, F, b⟩ := T.reaches.ex
  refine ⟨fd, F.ok sc_reaches (fun vs H Q E h => ?_) (fun cdv A outer s H vs Q E hr h => ?_), b, F.kp⟩
  · obtain ⟨v, lo, hi, rfl, _⟩ := h; rfl
  · obtain ⟨v, lo, hi, rfl, hb, q⟩ := h
    refine ⟨_, pss_cons (ps_set (i := 3) sc_reaches.nd rfl (Or.inl rfl) (pv 0)) (pss_cons (ps_set (i := 4) sc_reaches.nd rfl (Or.inl rfl) (pv 0))
      (pss_cons (ps_while PassesOwn.never (pt_cmpR op_le (pv 3) (pv 2) (nomark _))
        (pss_cons (ps_if (pt_cmpR op_ge (pv 4) (pv 1) (nomark _)) (pss_one (ps_ret pe_bl)) pss_nil)
        (pss_cons (ps_if (pt_cmpR op_eq (pv 0) pe_int (nomark _)) (pss_one (ps_ret pe_bl)) pss_nil)
        (pss_cons (ps_set (i := 3) sc_reaches.nd rfl (Or.inl rfl) (pe_op op_mul (pv 3) pe_int))
        (pss_one (ps_set (i := 4) sc_reaches.nd rfl (Or.inl rfl) (pe_op op_add (pe_op op_mul (pv 4) pe_int) pe_int)))))))
      (pss_one (ps_ret pe_bl)))), ?_⟩
    refine ⟨_, rfl, _, rfl, ?_⟩
    refine ⟨fun m σ H' => ∃ j : Nat, m = hi + 1 - v * 10 ^ j ∧ σ = [some (.int (v : Int)), some (.int (lo : Int)), some (.int (hi : Int)), some (.int ((v * 10 ^ j : Nat) : Int)), some (.int (((v + 1) * 10 ^ j - 1 : Nat) : Int))] ∧ H' = H ∧ (0 < j → 0 < v) ∧ ∀ i, i < j → ¬ lo < (v + 1) * 10 ^ i,
      ⟨_, 0, rfl, ?_, rfl, fun z => absurd z (by decide), fun i z => absurd z (by omega)⟩, ?_⟩
    · have e1 : v * 10 ^ 0 = v := by simp
      have e2 : (v + 1) * 10 ^ 0 - 1 = v := by simp
      rw [e1, e2]
      rfl
    · rintro m σ H' ⟨j, rfl, rfl, rfl, hj, hi'⟩
      refine ⟨_, rfl, _, rfl, _, _, rfl, rfl, _, rfl, ?_⟩
      by_cases z : ((v * 10 ^ j : Nat) : Int) ≤ (hi : Int)
      · have z' : v * 10 ^ j ≤ hi := by omega
        rw [decide_eq_true z]
        refine iteT ⟨fun σ' H2 => ∃ m', m' < hi + 1 - v * 10 ^ j ∧ ∃ j : Nat, m' = hi + 1 - v * 10 ^ j ∧ σ' = [some (.int (v : Int)), some (.int (lo : Int)), some (.int (hi : Int)), some (.int ((v * 10 ^ j : Nat) : Int)), some (.int (((v + 1) * 10 ^ j - 1 : Nat) : Int))] ∧ H2 = H' ∧ (0 < j → 0 < v) ∧ ∀ i, i < j → ¬ lo < (v + 1) * 10 ^ i, fun σ' H2 y => y, ?_⟩
        refine ⟨_, rfl, _, rfl, _, _, rfl, rfl, _, rfl, ?_⟩
        have hp : 0 < 10 ^ j := Nat.pow_pos (by decide)
        have hp2 : 0 < (v + 1) * 10 ^ j := Nat.mul_pos (by omega) hp
        by_cases y : (lo : Int) ≤ (((v + 1) * 10 ^ j - 1 : Nat) : Int)
        · rw [decide_eq_true y]
          refine iteT ?_
          have y' : lo < (v + 1) * 10 ^ j := by omega
          have e : ldB lo hi v = true := by
            rcases Nat.eq_zero_or_pos v with hv | hv
            · subst hv
              have hj0 : j = 0 := by
                rcases Nat.eq_zero_or_pos j with u | u
                · exact u
                · exact absurd (hj u) (by decide)
              subst hj0
              have : lo = 0 := by simpa using y'
              subst this
              rfl
            · exact ldB_true hv hb z' y'
          rw [e] at q
          exact q
        · rw [decide_eq_false y]
          have y' : ¬ lo < (v + 1) * 10 ^ j := by omega
          refine iteF ⟨_, rfl, rfl, _, rfl, ?_⟩
          by_cases hv : v = 0
          · rw [decide_eq_true (by rw [hv]; rfl : V.int (v : Int) = V.int 0)]
            refine iteT ?_
            subst hv
            have hj0 : j = 0 := by
              rcases Nat.eq_zero_or_pos j with u | u
              · exact u
              · exact absurd (hj u) (by decide)
            subst hj0
            have : ¬ lo = 0 := by
              intro u; subst u; exact y' (by decide)
            have e : ldB lo hi 0 = false := by rw [ldB_zero]; simp [this]
            rw [e] at q
            exact q
          · rw [decide_eq_false fun u => hv (by injection u with u; omega)]
            have hv' : 0 < v := Nat.pos_of_ne_zero hv
            refine iteF ⟨_, rfl, _, _, rfl, rfl, .inr (by constructor <;> decide), ?_⟩
            refine ⟨_, rfl, _, _, rfl, rfl, .inr (by constructor <;> decide), _, _, rfl, rfl, ?_⟩
            have hm : v * 10 ^ (j + 1) = v * 10 ^ j * 10 := by rw [Nat.pow_succ, Nat.mul_assoc]
            have hm2 : (v + 1) * 10 ^ (j + 1) = (v + 1) * 10 ^ j * 10 := by rw [Nat.pow_succ, Nat.mul_assoc]
            have hvp : 0 < v * 10 ^ j := Nat.mul_pos hv' hp
            refine ⟨hi + 1 - v * 10 ^ (j + 1), by omega, j + 1, rfl, ?_, rfl, fun _ => hv', fun i hi2 => ?_⟩
            · have e1 : ((v * 10 ^ (j + 1) : Nat) : Int) = ((v * 10 ^ j : Nat) : Int) * 10 := by rw [hm]; omega
              have e2 : (((v + 1) * 10 ^ (j + 1) - 1 : Nat) : Int) = (((v + 1) * 10 ^ j - 1 : Nat) : Int) * 10 + 9 := by rw [hm2]; omega
              rw [e1, e2]
              rfl
            · rcases Nat.lt_or_ge i j with u | u
              · exact hi' i u
              · have : i = j := by omega
                subst this
                exact y'
      · rw [decide_eq_false z]
        have z' : hi < v * 10 ^ j := by omega
        refine iteF ?_
        have hv : 0 < v := by
          rcases Nat.eq_zero_or_pos v with u | u
          · subst u; simp at z'
          · exact u
        have e : ldB lo hi v = false := ldB_false hv z' hi'
        rw [e] at q
        exact q
end
end Ab

set_option Elab.async false
set_option linter.all false
set_option maxRecDepth 100000
set_option maxHeartbeats 2000000
namespace Ab
open PySem PySem.Spec PyProof.Rows L2
def Res {α : Type} (x : Except Nat α) (ok : α → Prop) (er : Nat → Prop) : Prop := match x with
  | .ok v => ok v
  | .error p => er p
theorem Res.ok_ {α : Type} {x : Except Nat α} {ok : α → Prop} {er : Nat → Prop} {v : α} (h : Res x ok er) (e : x = .ok v) : ok v := by subst e; exact h
theorem Res.er_ {α : Type} {x : Except Nat α} {ok : α → Prop} {er : Nat → Prop} {p : Nat} (h : Res x ok er) (e : x = .error p) : er p := by subst e; exact h
theorem raise_fault {a : Ad} {E : XK} {H1 : Hp} {rule : Int} {p : Nat} {q : Addr} {z : Int} (hz : z = (p : Int)) (hT : Thr a E rule p) :
    spFa a [.ref q, .int rule, .int z] (upd H1 q (xo q a.cFa none)) (fun v H2 => v = .non ∧ ∃ dx, H2 q = some (xo q a.cFa (some dx)) ∧ E (.ref a.cFa) (some dx) (del H2 q)) E0 := by
  subst hz
  exact ⟨q, rule, p, rfl, upd_same, fun H' dx l h1 h2 h3 h4 h5 => ⟨rfl, dx, h1, hT _ dx l (by rw [del_ne h2]; exact h4) (by rw [del_ne h3]; exact h5)⟩⟩
def spWords (K : PySem.W.Frag) (a : Ad) : Sp := fun vs H Q E => ∃ r t ns rule k, ∃ x : Str, vs = [.ref r, .str x] ∧ RdAt K a H r t ns rule k ∧ Res (exW ns x.cps.toList k) (fun k' => ∀ H' : Hp, RdAt K a H' r t ns rule k' → Keep r H H' → Q .non H') (Thr a E rule)
def spBnd (K : PySem.W.Frag) (a : Ad) : Sp := fun vs H Q E => ∃ r t ns rule k, ∃ lo hi : Nat, vs = [.ref r, .int (lo : Int), .int (hi : Int)] ∧ hi < 10 ^ 45 ∧ RdAt K a H r t ns rule k ∧ Res (rb ns lo hi k) (fun x => ∀ H' : Hp, RdAt K a H' r t ns rule x.2 → Keep r H H' → Q (.int (x.1 : Int)) H') (Thr a E rule)
def spWhole (K : PySem.W.Frag) (a : Ad) : Sp := fun vs H Q E => ∃ r t ns rule k, vs = [.ref r] ∧ RdAt K a H r t ns rule k ∧ Res (rowM ns k) (fun x => ∀ H' : Hp, RdAt K a H' r t ns rule x.2 → Keep r H H' → Q (.int x.1) H') (Thr a E rule)
section
variable {P : Program} {w : World} {K : PySem.W.Frag} {mg : Str → Option Value} {base : Heap} {a : Ad}
theorem sc_readWords : FnScope ["self", "words", "sign"] ["self", "words"] (defScope s_readWords) := ⟨rfl, rfl, rfl, by decide +kernel, rfl, by decide +kernel, by decide +kernel⟩
theorem ok_readWords (T : Tx K mg a) : Good P w K mg base (CXE P w) 4 a.f_readWords ["self", "words"] (spWords K a) := by
  obtain ⟨fd, F, b⟩ := T.readWords.ex
  obtain ⟨fd1, G1, b1, kp1⟩ := ok_skip (P := P) (w := w) (base := base) T
  obtain ⟨fd2, G2, b2, kp2⟩ := ok_initFa (P := P) (w := w) (base := base) T
  refine ⟨fd, F.okX sc_readWords (fun vs H Q E h => ?_) (fun cdv A outer s H vs Q E hr h => ?_), b, F.kp⟩
  · obtain ⟨r, t, ns, rule, k, x, rfl, _⟩ := h; rfl
  · obtain ⟨r, t, ns, rule, k, x, rfl, R, res⟩ := h
    refine ⟨_, pss_one (ps_for ownX rfl (pi_str (pv 1)) (pg_name (i := 2) sc_readWords.nd rfl (Or.inl rfl))
      (pss_one (ps_if (pt_not (pt_val (pe_meth (pv 0) T.pRd.cl T.m_skip G1 hr b1 .nil pass0 (pa_cons (pe_callB call_ord (by rfl) T.b_ord PyProof.Rows.boot_ord (pa_cons (pv 2) pa_nil)) pa_nil))))
        (pss_one (ps_raise rfl fliesX T.xFa G2 (hr.mono (by decide)) (by rfl) T.gFa b2 (pa_cons (pe_fld (pv 0) rfl) (pa_cons (pe_fld (pv 0) rfl) pa_nil)))) pss_nil))), ?_⟩
    refine ⟨_, rfl, x, rfl, fun i m σ H' => m = x.cps.size - i ∧ i ≤ x.cps.size ∧ (∃ v, σ = [some (.ref r), some (.str x), v]) ∧ Keep r H H' ∧ ∃ j, RdAt K a H' r t ns rule j ∧ exW ns x.cps.toList k = exW ns (x.cps.toList.drop i) j,
      ⟨_, rfl, Nat.zero_le _, ⟨_, rfl⟩, Keep.refl _ _, k, R, rfl⟩, ?_⟩
    rintro i m σ H' ⟨rfl, hi, ⟨v, rfl⟩, kp, j, R', e⟩
    by_cases z : i < x.cps.size
    · refine .inr ⟨z, fun σ' H2 => ∃ m', m' < x.cps.size - i ∧ m' = x.cps.size - (i + 1) ∧ i + 1 ≤ x.cps.size ∧ (∃ v, σ' = [some (.ref r), some (.str x), v]) ∧ Keep r H H2 ∧ ∃ j, RdAt K a H2 r t ns rule j ∧ exW ns x.cps.toList k = exW ns (x.cps.toList.drop (i + 1)) j, fun _ _ y => y, ?_⟩
      rintro y H2 ⟨rfl, c, hc, rfl⟩
      obtain ⟨dx, hR⟩ := R'.ins
      have ed : x.cps.toList.drop i = c :: x.cps.toList.drop (i + 1) := by
        have h1 : x.cps.toList[i]? = some c := by rw [Array.getElem?_toList]; exact hc
        obtain ⟨h2, h3⟩ := List.getElem?_eq_some_iff.mp h1
        rw [List.drop_eq_getElem_cons h2, h3]
      rw [ed] at e
      have e2 : exW ns (c :: x.cps.toList.drop (i + 1)) j = if pk ns j = (c : Int) then exW ns (x.cps.toList.drop (i + 1)) (j + 1) else .error j := rfl
      refine ⟨_, rfl, r, dx, _, rfl, hR, rf_no _ _ _ (by decide +kernel), _, rfl, _, rfl, rfl, ?_⟩
      refine ⟨r, t, ns, rule, j, _, rfl, Int.natCast_nonneg _, R', fun n => ?_, fun n H3 R3 k3 => ?_⟩
      · refine ⟨_, rfl, iteT ?_⟩
        rw [e2, if_neg (show ¬ pk ns j = (c : Int) from n)] at e
        refine ⟨_, rfl, r, a.cRd, dx, _, _, rfl, hR, T.pRd.cl, T.pRd.no _ (by simp), rf_rule _ _ _, ?_⟩
        refine ⟨_, rfl, r, a.cRd, dx, _, _, rfl, hR, T.pRd.cl, T.pRd.no _ (by simp), rf_at _ _ _, ?_⟩
        exact ⟨(by show 2 ≤ sizeLine; decide), fun q hq => raise_fault rfl (res.er_ e)⟩
      · refine ⟨_, rfl, iteF ?_⟩
        rw [e2, if_pos (show pk ns j = (c : Int) from n)] at e
        exact ⟨_, by omega, rfl, by omega, ⟨_, rfl⟩, kp.trans k3, j + 1, R3, e⟩
    · have ei : i = x.cps.size := by omega
      subst ei
      refine .inl ⟨Nat.le_refl _, ?_⟩
      have ed : x.cps.toList.drop x.cps.size = [] := by rw [List.drop_eq_nil_iff]; simp
      rw [ed] at e
      exact res.ok_ e H' R' kp
end
end Ab

set_option Elab.async false
set_option linter.all false
set_option maxRecDepth 100000
set_option maxHeartbeats 2000000
namespace Ab
open PySem PySem.Spec PyProof.Rows L2
theorem pd_end (ns : List Int) : pd ns ns.length = -1 := by
  unfold pd
  rw [pk_end]
  rfl
theorem pd_in {ns : List Int} {k : Nat} (hk : k ≤ ns.length) (h : 0 ≤ pd ns k) : k < ns.length := by
  rcases Nat.lt_or_ge k ns.length with y | y
  · exact y
  · have e : k = ns.length := Nat.le_antisymm hk y
    rw [e, pd_end] at h
    omega
theorem rbl_stop {ns : List Int} {lo hi st f v k : Nat} (h : ¬ (0 ≤ pd ns k ∧ (k = st ∨ 0 < v) ∧ ldB lo hi (v * 10 + (pd ns k).toNat) = true)) : rbl ns lo hi st f v k = (v, k) := by
  cases f with
  | zero => rfl
  | succ f => unfold rbl; rw [if_neg h]
theorem rbl_go {ns : List Int} {lo hi st v k : Nat} (hk : k < ns.length) (h : 0 ≤ pd ns k ∧ (k = st ∨ 0 < v) ∧ ldB lo hi (v * 10 + (pd ns k).toNat) = true) :
    rbl ns lo hi st (ns.length - k) v k = rbl ns lo hi st (ns.length - (k + 1)) (v * 10 + (pd ns k).toNat) (k + 1) := by
  have e : ns.length - k = (ns.length - (k + 1)) + 1 := by omega
  rw [e]
  show (if _ then _ else _) = _
  rw [if_pos h]
theorem rb_er {ns : List Int} {lo hi k v j : Nat} (e : rbl ns lo hi k (ns.length - k) 0 k = (v, j)) (h : j = k ∨ v < lo) : rb ns lo hi k = .error j := by
  unfold rb
  rw [e]
  show (if j = k ∨ v < lo then _ else _) = _
  rw [if_pos h]
theorem rb_ok {ns : List Int} {lo hi k v j : Nat} (e : rbl ns lo hi k (ns.length - k) 0 k = (v, j)) (h : ¬ (j = k ∨ v < lo)) : rb ns lo hi k = .ok (v, j) := by
  unfold rb
  rw [e]
  show (if j = k ∨ v < lo then _ else _) = _
  rw [if_neg h]
def BInv (K : PySem.W.Frag) (a : Ad) (H : Hp) (r t : Addr) (ns : List Int) (rule : Int) (k lo hi : Nat) (m : Nat) (σ : L2.St) (H' : Hp) : Prop :=
  ∃ v j : Nat, m = ns.length - j ∧ (∃ g, σ = [some (.ref r), some (.int (lo : Int)), some (.int (hi : Int)), some (.int (k : Int)), some (.int (v : Int)), g]) ∧ Keep r H H' ∧ RdAt K a H' r t ns rule j ∧ rbl ns lo hi k (ns.length - k) 0 k = rbl ns lo hi k (ns.length - j) v j ∧ k ≤ j
section
variable {P : Program} {w : World} {K : PySem.W.Frag} {mg : Str → Option Value} {base : Heap} {a : Ad}
theorem sc_readBounded : FnScope ["self", "low", "high", "start", "value", "grown"] ["self", "low", "high"] (defScope s_readBounded) := ⟨rfl, rfl, rfl, by decide +kernel, rfl, by decide +kernel, by decide +kernel⟩
theorem ok_readBounded (T : Tx K mg a) : Good P w K mg base (CXE P w) 4 a.f_readBounded ["self", "low", "high"] (spBnd K a) := by
  obtain ⟨fd, F, b⟩ := T.readBounded.ex
  obtain ⟨fd1, G1, b1, kp1⟩ := ok_peekDigit (P := P) (w := w) (base := base) T
  obtain ⟨fd2, G2, b2, kp2⟩ := ok_initFa (P := P) (w := w) (base := base) T
  obtain ⟨fd3, G3, b3, kp3⟩ := ok_reaches (P := P) (w := w) (base := base) T
  refine ⟨fd, F.okX sc_readBounded (fun vs H Q E h => ?_) (fun cdv A outer s H vs Q E hr h => ?_), b, F.kp⟩
  · obtain ⟨r, t, ns, rule, k, lo, hi, rfl, _⟩ := h; rfl
  · obtain ⟨r, t, ns, rule, k, lo, hi, rfl, hb, R, res⟩ := h
    obtain ⟨dx0, hR0⟩ := R.ins
    refine ⟨_, pss_cons (ps_set (i := 3) sc_readBounded.nd rfl (Or.inl rfl) (pe_fld (pv 0) rfl)) (pss_cons (ps_set (i := 4) sc_readBounded.nd rfl (Or.inl rfl) pe_int)
      (pss_cons (ps_while ownX (pw_and (pt_cmpR op_ge (pe_meth0 (pv 0) T.pRd.cl T.m_peekDigit G1 hr b1 .nil pass0) pe_int (nomark _)) (pw_and1 (pw_or (pt_cmpR op_eq (pe_fld (pv 0) rfl) (pv 3) (nomark _)) (pw_or1 (pt_cmpR op_gt (pv 4) pe_int (nomark _)))).pt)).pt
        (pss_cons (ps_set (i := 5) sc_readBounded.nd rfl (Or.inl rfl) (pe_op op_add (pe_op op_mul (pv 4) pe_int) (pe_meth0 (pv 0) T.pRd.cl T.m_peekDigit G1 hr b1 .nil pass0)))
        (pss_cons (ps_if (pt_not (pt_val (pe_call G3 (hr.mono (by decide)) (by rfl) T.g_reaches kp3 b3 .nil pass0 (pa_cons (pv 5) (pa_cons (pv 1) (pa_cons (pv 2) pa_nil)))))) (pss_one ps_break) pss_nil)
        (pss_cons (ps_set (i := 4) sc_readBounded.nd rfl (Or.inl rfl) (pv 5)) (pss_one (ps_fldaug (pv 0) pe_int in_add))))))
      (pss_cons (ps_if (pw_or (pt_cmpR op_eq (pe_fld (pv 0) rfl) (pv 3) (nomark _)) (pw_or1 (pt_cmpR op_lt (pv 4) (pv 1) (nomark _)))).pt
        (pss_one (ps_raise rfl fliesX T.xFa G2 (hr.mono (by decide)) (by rfl) T.gFa b2 (pa_cons (pe_fld (pv 0) rfl) (pa_cons (pe_fld (pv 0) rfl) pa_nil)))) pss_nil)
      (pss_one (ps_ret (pv 4)))))), ?_⟩
    refine ⟨_, rfl, r, a.cRd, dx0, _, _, rfl, hR0, T.pRd.cl, T.pRd.no _ (by simp), rf_at _ _ _, ?_⟩
    refine ⟨BInv K a H r t ns rule k lo hi, ⟨_, 0, k, rfl, ⟨_, rfl⟩, Keep.refl _ _, R, rfl, Nat.le_refl _⟩, ?_⟩
    rintro m σ H' ⟨v, j, rfl, ⟨g, rfl⟩, kp, R', e, hkj⟩
    obtain ⟨dx, hR⟩ := R'.ins
    refine ⟨_, rfl, r, dx, _, rfl, hR, rf_no _ _ _ (by decide +kernel), r, t, ns, rule, j, rfl, R', _, _, rfl, rfl, _, rfl, ?_⟩
    by_cases c1 : 0 ≤ pd ns j
    · rw [decide_eq_true c1]
      have hj : j < ns.length := pd_in R'.le c1
      refine iteT ⟨_, rfl, r, a.cRd, dx, _, _, rfl, hR, T.pRd.cl, T.pRd.no _ (by simp), rf_at _ _ _, _, rfl, rfl, _, rfl, ?_⟩
      by_cases c2 : j = k ∨ 0 < v
      · have step : ∀ (H2 : Hp), RdAt K a H2 r t ns rule (j + 1) → Keep r H' H2 → ldB lo hi (v * 10 + (pd ns j).toNat) = true → ∀ g', ∃ m', m' < ns.length - j ∧ BInv K a H r t ns rule k lo hi m' [some (.ref r), some (.int (lo : Int)), some (.int (hi : Int)), some (.int (k : Int)), some (.int ((v * 10 + (pd ns j).toNat : Nat) : Int)), g'] H2 := fun H2 R2 k2 hl g' =>
          ⟨ns.length - (j + 1), by omega, v * 10 + (pd ns j).toNat, j + 1, rfl, ⟨_, rfl⟩, kp.trans k2, R2, e.trans (rbl_go hj ⟨c1, c2, hl⟩), by omega⟩
        have gr : (v : Int) * 10 + pd ns j = ((v * 10 + (pd ns j).toNat : Nat) : Int) := by omega
        by_cases hjk : j = k
        · rw [decide_eq_true (by rw [hjk] : V.int (j : Int) = V.int (k : Int))]
          refine iteT (iteT ⟨fun σ' H2 => ∃ m', m' < ns.length - j ∧ BInv K a H r t ns rule k lo hi m' σ' H2, fun _ _ y => y, ?_⟩)
          refine ⟨_, rfl, _, _, rfl, rfl, .inr (by constructor <;> decide), _, rfl, r, dx, _, rfl, hR, rf_no _ _ _ (by decide +kernel), r, t, ns, rule, j, rfl, R', _, _, rfl, rfl, ?_⟩
          refine ⟨_, rfl, _, rfl, _, rfl, v * 10 + (pd ns j).toNat, lo, hi, (by rw [← gr]; rfl), hb, _, rfl, ?_⟩
          cases hl : ldB lo hi (v * 10 + (pd ns j).toNat) with
          | true =>
            refine iteF ⟨_, rfl, _, rfl, r, a.cRd, dx, _, _, rfl, hR, T.pRd.cl, T.pRd.no _ (by simp), rf_at _ _ _, _, _, rfl, rfl, dx, _, hR, (by show 3 < 1000; decide), ?_⟩
            have R2 : RdAt K a (upd H' r (.ins a.cRd dx (putF "at" (.int ((j : Int) + 1)) (rf t rule (j : Int))))) r t ns rule (j + 1) := R'.go (Keep.upd _ _ _) ⟨dx, by
              rw [upd_same, rf_put]
              have ej : ((j + 1 : Nat) : Int) = (j : Int) + 1 := by omega
              rw [ej]⟩ hj
            have st := step _ R2 (Keep.upd _ _ _) hl (some (.int ((v : Int) * 10 + pd ns j)))
            rw [← gr] at st
            exact st
          | false =>
            have ex : rbl ns lo hi k (ns.length - k) 0 k = (v, j) := e.trans (rbl_stop fun y => by rw [hl] at y; cases y.2.2)
            refine iteT ?_
            refine ⟨_, rfl, r, a.cRd, dx, _, _, rfl, hR, T.pRd.cl, T.pRd.no _ (by simp), rf_at _ _ _, _, rfl, rfl, _, rfl, ?_⟩
            by_cases hjk : j = k
            · rw [decide_eq_true (by rw [hjk] : V.int (j : Int) = V.int (k : Int))]
              refine iteT (iteT ⟨_, rfl, r, a.cRd, dx, _, _, rfl, hR, T.pRd.cl, T.pRd.no _ (by simp), rf_rule _ _ _, _, rfl, r, a.cRd, dx, _, _, rfl, hR, T.pRd.cl, T.pRd.no _ (by simp), rf_at _ _ _, (by show 2 ≤ sizeLine; decide), fun q hq => raise_fault rfl (res.er_ (rb_er ex (.inl hjk)))⟩)
            · rw [decide_eq_false fun y => hjk (by injection y with y <;> omega)]
              refine iteF ⟨_, rfl, _, rfl, _, _, rfl, rfl, _, rfl, ?_⟩
              by_cases hv : (v : Int) < (lo : Int)
              · rw [decide_eq_true hv]
                refine iteT ⟨_, rfl, r, a.cRd, dx, _, _, rfl, hR, T.pRd.cl, T.pRd.no _ (by simp), rf_rule _ _ _, _, rfl, r, a.cRd, dx, _, _, rfl, hR, T.pRd.cl, T.pRd.no _ (by simp), rf_at _ _ _, (by show 2 ≤ sizeLine; decide), fun q hq => raise_fault rfl (res.er_ (rb_er ex (.inr (by omega))))⟩
              · rw [decide_eq_false hv]
                exact iteF ⟨_, rfl, res.ok_ (rb_ok ex (by omega)) H' R' kp⟩
        · rw [decide_eq_false fun y => hjk (by injection y with y <;> omega)]
          have hv : 0 < v := c2.resolve_left hjk
          refine iteF ⟨_, rfl, _, _, rfl, rfl, _, rfl, ?_⟩
          rw [decide_eq_true (show (0 : Int) < (v : Int) by omega)]
          refine iteT ⟨fun σ' H2 => ∃ m', m' < ns.length - j ∧ BInv K a H r t ns rule k lo hi m' σ' H2, fun _ _ y => y, ?_⟩
          refine ⟨_, rfl, _, _, rfl, rfl, .inr (by constructor <;> decide), _, rfl, r, dx, _, rfl, hR, rf_no _ _ _ (by decide +kernel), r, t, ns, rule, j, rfl, R', _, _, rfl, rfl, ?_⟩
          refine ⟨_, rfl, _, rfl, _, rfl, v * 10 + (pd ns j).toNat, lo, hi, (by rw [← gr]; rfl), hb, _, rfl, ?_⟩
          cases hl : ldB lo hi (v * 10 + (pd ns j).toNat) with
          | true =>
            refine iteF ⟨_, rfl, _, rfl, r, a.cRd, dx, _, _, rfl, hR, T.pRd.cl, T.pRd.no _ (by simp), rf_at _ _ _, _, _, rfl, rfl, dx, _, hR, (by show 3 < 1000; decide), ?_⟩
            have R2 : RdAt K a (upd H' r (.ins a.cRd dx (putF "at" (.int ((j : Int) + 1)) (rf t rule (j : Int))))) r t ns rule (j + 1) := R'.go (Keep.upd _ _ _) ⟨dx, by
              rw [upd_same, rf_put]
              have ej : ((j + 1 : Nat) : Int) = (j : Int) + 1 := by omega
              rw [ej]⟩ hj
            have st := step _ R2 (Keep.upd _ _ _) hl (some (.int ((v : Int) * 10 + pd ns j)))
            rw [← gr] at st
            exact st
          | false =>
            have ex : rbl ns lo hi k (ns.length - k) 0 k = (v, j) := e.trans (rbl_stop fun y => by rw [hl] at y; cases y.2.2)
            refine iteT ?_
            refine ⟨_, rfl, r, a.cRd, dx, _, _, rfl, hR, T.pRd.cl, T.pRd.no _ (by simp), rf_at _ _ _, _, rfl, rfl, _, rfl, ?_⟩
            by_cases hjk : j = k
            · rw [decide_eq_true (by rw [hjk] : V.int (j : Int) = V.int (k : Int))]
              refine iteT (iteT ⟨_, rfl, r, a.cRd, dx, _, _, rfl, hR, T.pRd.cl, T.pRd.no _ (by simp), rf_rule _ _ _, _, rfl, r, a.cRd, dx, _, _, rfl, hR, T.pRd.cl, T.pRd.no _ (by simp), rf_at _ _ _, (by show 2 ≤ sizeLine; decide), fun q hq => raise_fault rfl (res.er_ (rb_er ex (.inl hjk)))⟩)
            · rw [decide_eq_false fun y => hjk (by injection y with y <;> omega)]
              refine iteF ⟨_, rfl, _, rfl, _, _, rfl, rfl, _, rfl, ?_⟩
              by_cases hv : (v : Int) < (lo : Int)
              · rw [decide_eq_true hv]
                refine iteT ⟨_, rfl, r, a.cRd, dx, _, _, rfl, hR, T.pRd.cl, T.pRd.no _ (by simp), rf_rule _ _ _, _, rfl, r, a.cRd, dx, _, _, rfl, hR, T.pRd.cl, T.pRd.no _ (by simp), rf_at _ _ _, (by show 2 ≤ sizeLine; decide), fun q hq => raise_fault rfl (res.er_ (rb_er ex (.inr (by omega))))⟩
              · rw [decide_eq_false hv]
                exact iteF ⟨_, rfl, res.ok_ (rb_ok ex (by omega)) H' R' kp⟩
      · have hjk : ¬ j = k := fun y => c2 (.inl y)
        have hv : v = 0 := by omega
        have ex : rbl ns lo hi k (ns.length - k) 0 k = (v, j) := e.trans (rbl_stop fun y => c2 y.2.1)
        rw [decide_eq_false fun y => hjk (by injection y with y <;> omega)]
        refine iteF ⟨_, rfl, _, _, rfl, rfl, _, rfl, ?_⟩
        rw [decide_eq_false (show ¬ (0 : Int) < (v : Int) by omega)]
        refine iteF ?_
        refine ⟨_, rfl, r, a.cRd, dx, _, _, rfl, hR, T.pRd.cl, T.pRd.no _ (by simp), rf_at _ _ _, _, rfl, rfl, _, rfl, ?_⟩
        by_cases hjk : j = k
        · rw [decide_eq_true (by rw [hjk] : V.int (j : Int) = V.int (k : Int))]
          refine iteT (iteT ⟨_, rfl, r, a.cRd, dx, _, _, rfl, hR, T.pRd.cl, T.pRd.no _ (by simp), rf_rule _ _ _, _, rfl, r, a.cRd, dx, _, _, rfl, hR, T.pRd.cl, T.pRd.no _ (by simp), rf_at _ _ _, (by show 2 ≤ sizeLine; decide), fun q hq => raise_fault rfl (res.er_ (rb_er ex (.inl hjk)))⟩)
        · rw [decide_eq_false fun y => hjk (by injection y with y <;> omega)]
          refine iteF ⟨_, rfl, _, rfl, _, _, rfl, rfl, _, rfl, ?_⟩
          by_cases hv : (v : Int) < (lo : Int)
          · rw [decide_eq_true hv]
            refine iteT ⟨_, rfl, r, a.cRd, dx, _, _, rfl, hR, T.pRd.cl, T.pRd.no _ (by simp), rf_rule _ _ _, _, rfl, r, a.cRd, dx, _, _, rfl, hR, T.pRd.cl, T.pRd.no _ (by simp), rf_at _ _ _, (by show 2 ≤ sizeLine; decide), fun q hq => raise_fault rfl (res.er_ (rb_er ex (.inr (by omega))))⟩
          · rw [decide_eq_false hv]
            exact iteF ⟨_, rfl, res.ok_ (rb_ok ex (by omega)) H' R' kp⟩
    · rw [decide_eq_false c1]
      have ex : rbl ns lo hi k (ns.length - k) 0 k = (v, j) := e.trans (rbl_stop fun y => c1 y.1)
      refine iteF (iteF ?_)
      refine ⟨_, rfl, r, a.cRd, dx, _, _, rfl, hR, T.pRd.cl, T.pRd.no _ (by simp), rf_at _ _ _, _, rfl, rfl, _, rfl, ?_⟩
      by_cases hjk : j = k
      · rw [decide_eq_true (by rw [hjk] : V.int (j : Int) = V.int (k : Int))]
        refine iteT (iteT ⟨_, rfl, r, a.cRd, dx, _, _, rfl, hR, T.pRd.cl, T.pRd.no _ (by simp), rf_rule _ _ _, _, rfl, r, a.cRd, dx, _, _, rfl, hR, T.pRd.cl, T.pRd.no _ (by simp), rf_at _ _ _, (by show 2 ≤ sizeLine; decide), fun q hq => raise_fault rfl (res.er_ (rb_er ex (.inl hjk)))⟩)
      · rw [decide_eq_false fun y => hjk (by injection y with y <;> omega)]
        refine iteF ⟨_, rfl, _, rfl, _, _, rfl, rfl, _, rfl, ?_⟩
        by_cases hv : (v : Int) < (lo : Int)
        · rw [decide_eq_true hv]
          refine iteT ⟨_, rfl, r, a.cRd, dx, _, _, rfl, hR, T.pRd.cl, T.pRd.no _ (by simp), rf_rule _ _ _, _, rfl, r, a.cRd, dx, _, _, rfl, hR, T.pRd.cl, T.pRd.no _ (by simp), rf_at _ _ _, (by show 2 ≤ sizeLine; decide), fun q hq => raise_fault rfl (res.er_ (rb_er ex (.inr (by omega))))⟩
        · rw [decide_eq_false hv]
          exact iteF ⟨_, rfl, res.ok_ (rb_ok ex (by omega)) H' R' kp⟩
end
end Ab

set_option Elab.async false
set_option linter.all false
set_option maxRecDepth 100000
set_option maxHeartbeats 2000000
namespace Ab
open PySem PySem.Spec PyProof.Rows L2
def DcAt (a : Ad) (H : Hp) (q : Addr) (u s : Int) : Prop := ∃ dx, H q = some (.ins a.cDec dx (df u s))
def Keep2 (r q : Addr) (H H' : Hp) : Prop := ∀ b o, H b = some o → b ≠ r → b ≠ q → H' b = some o
theorem Keep2.refl (r q : Addr) (H : Hp) : Keep2 r q H H := fun _ _ h _ _ => h
theorem Keep2.trans {r q : Addr} {H H1 H2 : Hp} (a : Keep2 r q H H1) (b : Keep2 r q H1 H2) : Keep2 r q H H2 := fun c o h n n2 => b c o (a c o h n n2) n n2
theorem Keep.two {r q : Addr} {H H' : Hp} (h : Keep r H H') : Keep2 r q H H' := fun b o e n _ => h b o e n
theorem Keep.two' {r q : Addr} {H H' : Hp} (h : Keep q H H') : Keep2 r q H H' := fun b o e _ n => h b o e n
/-- where only what stands at q has changed -/
theorem RdAt.off {K : PySem.W.Frag} {a : Ad} {H H' : Hp} {r t q : Addr} {ns : List Int} {rule : Int} {k : Nat} {C dx : Addr} {fs : List (Str × V)} (R : RdAt K a H r t ns rule k) (hq : H q = some (.ins C dx fs)) (n : r ≠ q) (hk : Keep q H H') : RdAt K a H' r t ns rule k := by
  obtain ⟨dxr, hr⟩ := R.ins
  refine ⟨⟨dxr, hk _ _ hr n⟩, ?_, R.le⟩
  rcases R.txt with (z | ⟨o, z⟩) | z
  · exact .inl (.inl (hk _ _ z (ne_of z hq (by intro q; cases q))))
  · exact .inl (.inr ⟨o, hk _ _ z (ne_of z hq (by intro q; cases q))⟩)
  · exact .inr z
def spTail (K : PySem.W.Frag) (a : Ad) : Sp := fun vs H Q E => ∃ r t ns rule k q, ∃ (mn : Bool) (v : Nat), vs = [.ref r, .ref q, .bl mn] ∧ RdAt K a H r t ns rule k ∧ DcAt a H q (v : Int) 1 ∧ r ≠ q ∧
  Res (tailM ns (!mn) v k) (fun x => ∀ H' : Hp, RdAt K a H' r t ns rule x.2.2 → DcAt a H' q (x.1 : Int) ((10 ^ x.2.1 : Nat) : Int) → Keep2 r q H H' → Q .non H') (Thr a E rule)
def spDecm (K : PySem.W.Frag) (a : Ad) : Sp := fun vs H Q E => ∃ r t ns rule k, ∃ (mb mn : Bool), vs = [.ref r, .bl mb, .bl mn] ∧ RdAt K a H r t ns rule k ∧
  Res (decM ns mb (!mn) k) (fun x => ∀ (H' : Hp) (q : Addr), RdAt K a H' r t ns rule x.2.2 → H q = none → DcAt a H' q x.1 ((10 ^ x.2.1 : Nat) : Int) → Keep r H H' → Q (.ref q) H') (Thr a E rule)
/-- a number with no sign: units, places, the place behind it -/
def unsM (ns : List Int) (most : Nat) (nn : Bool) (k : Nat) : Except Nat (Nat × Nat × Nat) :=
  match rb ns 0 most k with
  | .error p => .error p
  | .ok (v, k2) =>
    if pk ns k2 = 46 then
      match tailM ns nn v (k2 + 1) with
      | .error p => .error p
      | .ok (u, m, k3) => if nn = true ∧ u = 0 then .error k3 else .ok (u, m, k3)
    else if nn = true ∧ v = 0 then .error k2 else .ok (v, 0, k2)
theorem decG_uns (ns : List Int) (most : Nat) (below s : Bool) (k : Nat) : decG ns most below s k =
    if (below && decide (pk ns k = 45)) = true then (unsM ns most true (k + 1)).map fun x => (-(x.1 : Int), x.2.1, x.2.2) else (unsM ns most s k).map fun x => ((x.1 : Int), x.2.1, x.2.2) := by
  unfold decG unsM
  dsimp only
  cases (below && decide (pk ns k = 45)) with
  | true =>
    rw [if_pos rfl, if_pos rfl]
    cases rb ns 0 most (k + 1) with
    | error p => rfl
    | ok x =>
      obtain ⟨v, k2⟩ := x
      dsimp only
      by_cases h : pk ns k2 = 46
      · rw [if_pos h, if_pos h]
        show (match tailM ns true v (k2 + 1) with | .error p => _ | .ok (u, m, k3) => _) = _
        cases tailM ns true v (k2 + 1) with
        | error p => rfl
        | ok y =>
          obtain ⟨u, m, k3⟩ := y
          dsimp only
          by_cases h0 : u = 0
          · rw [if_pos ⟨rfl, h0⟩, if_pos ⟨rfl, h0⟩]; rfl
          · rw [if_neg fun z => h0 z.2, if_neg fun z => h0 z.2]; rfl
      · rw [if_neg h, if_neg h]
        by_cases h0 : v = 0
        · rw [if_pos ⟨rfl, h0⟩, if_pos ⟨rfl, h0⟩]; rfl
        · rw [if_neg fun z => h0 z.2, if_neg fun z => h0 z.2]; rfl
  | false =>
    rw [if_neg Bool.false_ne_true, if_neg Bool.false_ne_true, Bool.false_or]
    cases rb ns 0 most k with
    | error p => rfl
    | ok x =>
      obtain ⟨v, k2⟩ := x
      dsimp only
      by_cases h : pk ns k2 = 46
      · rw [if_pos h, if_pos h]
        show (match tailM ns s v (k2 + 1) with | .error p => _ | .ok (u, m, k3) => _) = _
        cases tailM ns s v (k2 + 1) with
        | error p => rfl
        | ok y =>
          obtain ⟨u, m, k3⟩ := y
          dsimp only
          by_cases h0 : s = true ∧ u = 0
          · rw [if_pos h0, if_pos h0]; rfl
          · rw [if_neg h0, if_neg h0]; rfl
      · rw [if_neg h, if_neg h]
        by_cases h0 : s = true ∧ v = 0
        · rw [if_pos h0, if_pos h0]; rfl
        · rw [if_neg h0, if_neg h0]; rfl
def spUns (K : PySem.W.Frag) (a : Ad) : Sp := fun vs H Q E => ∃ r t ns rule k, ∃ (most : Nat) (mn : Bool), vs = [.ref r, .int (most : Int), .bl mn] ∧ most < 10 ^ 45 ∧ RdAt K a H r t ns rule k ∧
  Res (unsM ns most (!mn) k) (fun x => ∀ (H' : Hp) (q : Addr), RdAt K a H' r t ns rule x.2.2 → H q = none → DcAt a H' q (x.1 : Int) ((10 ^ x.2.1 : Nat) : Int) → Keep r H H' → Q (.ref q) H') (Thr a E rule)
def spNegd (a : Ad) : Sp := fun vs H Q _ => ∃ (q : Addr) (u s : Int), vs = [.ref q] ∧ DcAt a H q u s ∧ ∀ (H' : Hp) (p : Addr), H p = none → DcAt a H' p (-u) s → Same H H' → Q (.ref p) H'
theorem tlM_stop {ns : List Int} {nn : Bool} {f u m k : Nat} (h : ∀ f', f = f' + 1 → ¬ (0 ≤ pd ns k ∧ ¬ (nn = true ∧ u * 10 + (pd ns k).toNat = 0 ∧ f' = 0))) : tlM ns nn f u m k = (u, m, k) := by
  cases f with
  | zero => rfl
  | succ f => unfold tlM; rw [if_neg (h f rfl)]
theorem tlM_go {ns : List Int} {nn : Bool} {f u m k : Nat} (h : 0 ≤ pd ns k ∧ ¬ (nn = true ∧ u * 10 + (pd ns k).toNat = 0 ∧ f = 0)) : tlM ns nn (f + 1) u m k = tlM ns nn f (u * 10 + (pd ns k).toNat) (m + 1) (k + 1) := by
  show (if _ then _ else _) = _
  rw [if_pos h]
theorem tailM_er {ns : List Int} {nn : Bool} {v k u m j : Nat} (e : tlM ns nn 9 v 0 k = (u, m, j)) (h : m = 0) : tailM ns nn v k = .error j := by
  unfold tailM
  rw [e]
  show (if m = 0 then _ else _) = _
  rw [if_pos h]
theorem tailM_ok {ns : List Int} {nn : Bool} {v k u m j : Nat} (e : tlM ns nn 9 v 0 k = (u, m, j)) (h : ¬ m = 0) : tailM ns nn v k = .ok (u, m, j) := by
  unfold tailM
  rw [e]
  show (if m = 0 then _ else _) = _
  rw [if_neg h]
def TInv (K : PySem.W.Frag) (a : Ad) (H : Hp) (r t : Addr) (ns : List Int) (rule : Int) (k : Nat) (q : Addr) (mn : Bool) (v : Nat) (m : Nat) (σ : L2.St) (H' : Hp) : Prop :=
  ∃ u c j : Nat, m = 9 - c ∧ c ≤ 9 ∧ (∃ g1 g2, σ = [some (.ref r), some (.ref q), some (.bl mn), g1, g2]) ∧ Keep2 r q H H' ∧ RdAt K a H' r t ns rule j ∧ DcAt a H' q (u : Int) ((10 ^ c : Nat) : Int) ∧ tlM ns (!mn) 9 v 0 k = tlM ns (!mn) (9 - c) u c j
theorem pow_lt9 {c : Nat} (h : c ≤ 9) : ((10 ^ c : Nat) : Int) < 1000000000 ↔ c < 9 := by
  match c, h with
  | 0, _ => decide
  | 1, _ => decide
  | 2, _ => decide
  | 3, _ => decide
  | 4, _ => decide
  | 5, _ => decide
  | 6, _ => decide
  | 7, _ => decide
  | 8, _ => decide
  | 9, _ => decide
  | n + 10, h => omega
theorem pow_eq9 {c : Nat} (h : c < 9) : ((10 ^ c : Nat) : Int) * 10 = 1000000000 ↔ c = 8 := by
  match c, h with
  | 0, _ => decide
  | 1, _ => decide
  | 2, _ => decide
  | 3, _ => decide
  | 4, _ => decide
  | 5, _ => decide
  | 6, _ => decide
  | 7, _ => decide
  | 8, _ => decide
  | n + 9, h => omega
theorem pow_eq1 {c : Nat} (h : c ≤ 9) : ((10 ^ c : Nat) : Int) = 1 ↔ c = 0 := by
  match c, h with
  | 0, _ => decide
  | 1, _ => decide
  | 2, _ => decide
  | 3, _ => decide
  | 4, _ => decide
  | 5, _ => decide
  | 6, _ => decide
  | 7, _ => decide
  | 8, _ => decide
  | 9, _ => decide
  | n + 10, h => omega
section
variable {P : Program} {w : World} {K : PySem.W.Frag} {mg : Str → Option Value} {base : Heap} {a : Ad}
theorem sc_readWhole : FnScope ["self"] ["self"] (defScope s_readWhole) := ⟨rfl, rfl, rfl, by decide +kernel, rfl, by decide +kernel, by decide +kernel⟩
theorem ok_readWhole (T : Tx K mg a) : Good P w K mg base (CXE P w) 5 a.f_readWhole ["self"] (spWhole K a) := by
  obtain ⟨fd, F, b⟩ := T.readWhole.ex
  obtain ⟨fd1, G1, b1, kp1⟩ := ok_skip (P := P) (w := w) (base := base) T
  obtain ⟨fd2, G2, b2, kp2⟩ := ok_readBounded (P := P) (w := w) (base := base) T
  obtain ⟨t1, hM⟩ := T.k_MINUS
  obtain ⟨t2, hW⟩ := T.k_MOST_WHOLE
  refine ⟨fd, F.okX sc_readWhole (fun vs H Q E h => ?_) (fun cdv A outer s H vs Q E hr h => ?_), b, F.kp⟩
  · obtain ⟨r, t, ns, rule, k, rfl, _⟩ := h; rfl
  · obtain ⟨r, t, ns, rule, k, rfl, R, res⟩ := h
    obtain ⟨dx, hR⟩ := R.ins
    refine ⟨_, pss_cons (ps_if (pt_val (pe_meth (pv 0) T.pRd.cl T.m_skip G1 (hr.mono (by decide)) b1 .nil pass0 (pa_cons (pe_glob (v := .int 45) (by rfl) hM ⟨_, rfl⟩) pa_nil)))
        (pss_one (ps_ret (pe_un un_neg (pe_meth (pv 0) T.pRd.cl T.m_readBounded G2 hr b2 .nil passX (pa_cons pe_int (pa_cons (pe_glob (v := .int 999999999999999999) (by rfl) hW ⟨_, rfl⟩) pa_nil)))))) pss_nil)
      (pss_one (ps_ret (pe_meth (pv 0) T.pRd.cl T.m_readBounded G2 hr b2 .nil passX (pa_cons pe_int (pa_cons (pe_glob (v := .int 999999999999999999) (by rfl) hW ⟨_, rfl⟩) pa_nil))))), ?_⟩
    refine ⟨_, rfl, r, dx, _, rfl, hR, rf_no _ _ _ (by decide +kernel), r, t, ns, rule, k, 45, rfl, by decide, R, fun n => ?_, fun n H1 R1 k1 => ?_⟩
    · refine ⟨_, rfl, iteF ⟨_, rfl, r, dx, _, rfl, hR, rf_no _ _ _ (by decide +kernel), r, t, ns, rule, k, 0, MOST, rfl, by decide, R, ?_⟩⟩
      have e : rowM ns k = (rb ns 0 MOST k).map fun x => ((x.1 : Int), x.2) := by unfold rowM; rw [if_neg n]
      cases hb : rb ns 0 MOST k with
      | error p => exact res.er_ (by rw [e, hb]; rfl)
      | ok x => exact res.ok_ (v := ((x.1 : Int), x.2)) (by rw [e, hb]; rfl)
    · obtain ⟨dx1, hR1⟩ := R1.ins
      refine ⟨_, rfl, iteT ⟨_, rfl, r, dx1, _, rfl, hR1, rf_no _ _ _ (by decide +kernel), r, t, ns, rule, k + 1, 1, MOST, rfl, by decide, R1, ?_⟩⟩
      have e : rowM ns k = (rb ns 1 MOST (k + 1)).map fun x => (-(x.1 : Int), x.2) := by unfold rowM; rw [if_pos n]
      cases hb : rb ns 1 MOST (k + 1) with
      | error p => exact res.er_ (by rw [e, hb]; rfl)
      | ok x => exact fun H2 R2 k2 => ⟨_, rfl, res.ok_ (v := (-(x.1 : Int), x.2)) (by rw [e, hb]; rfl) H2 R2 (k1.trans k2)⟩
end
end Ab

set_option Elab.async false
set_option linter.all false
set_option maxRecDepth 100000
set_option maxHeartbeats 2000000
namespace Ab
open PySem PySem.Spec PyProof.Rows L2
section
variable {P : Program} {w : World} {K : PySem.W.Frag} {mg : Str → Option Value} {base : Heap} {a : Ad}
theorem sc_readTail : FnScope ["self", "number", "may_be_nought", "units", "scale"] ["self", "number", "may_be_nought"] (defScope s_readTail) := ⟨rfl, rfl, rfl, by decide +kernel, rfl, by decide +kernel, by decide +kernel⟩
theorem ok_readTail (T : Tx K mg a) : Good P w K mg base (CXE P w) 4 a.f_readTail ["self", "number", "may_be_nought"] (spTail K a) := by
  obtain ⟨fd, F, b⟩ := T.readTail.ex
  obtain ⟨fd1, G1, b1, kp1⟩ := ok_peekDigit (P := P) (w := w) (base := base) T
  obtain ⟨fd2, G2, b2, kp2⟩ := ok_initFa (P := P) (w := w) (base := base) T
  obtain ⟨t2, hS⟩ := T.k_MOST_SCALE
  obtain ⟨big, hbig⟩ : ∃ big : Int, big = 1000000000 := ⟨_, rfl⟩
  rw [← hbig] at hS
  refine ⟨fd, F.okX sc_readTail (fun vs H Q E h => ?_) (fun cdv A outer s H vs Q E hr h => ?_), b, F.kp⟩
  · obtain ⟨r, t, ns, rule, k, q, mn, v, rfl, _⟩ := h; rfl
  · obtain ⟨r, t, ns, rule, k, q, mn, v, rfl, R, Dq, nrq, res⟩ := h
    refine ⟨_, pss_cons (ps_while ownX (pw_and (pt_cmpR op_ge (pe_meth0 (pv 0) T.pRd.cl T.m_peekDigit G1 hr b1 .nil pass0) pe_int (nomark _)) (pw_and1 (pt_cmpR op_lt (pe_fld (pv 1) rfl) (pe_glob (v := .int big) (by rfl) hS ⟨_, rfl⟩) (nomark _)))).pt
        (pss_cons (ps_set (i := 3) sc_readTail.nd rfl (Or.inl rfl) (pe_op op_add (pe_op op_mul (pe_fld (pv 1) rfl) pe_int) (pe_meth0 (pv 0) T.pRd.cl T.m_peekDigit G1 hr b1 .nil pass0)))
        (pss_cons (ps_set (i := 4) sc_readTail.nd rfl (Or.inl rfl) (pe_op op_mul (pe_fld (pv 1) rfl) pe_int))
        (pss_cons (ps_if (pw_and (pt_cmpR op_eq (pv 3) pe_int (nomark _)) (pw_and (pt_cmpR op_eq (pv 4) (pe_glob (v := .int big) (by rfl) hS ⟨_, rfl⟩) (nomark _)) (pw_and1 (pt_not (pt_val (pv 2)))))).pt (pss_one ps_break) pss_nil)
        (pss_cons (ps_fld (pv 1) (pv 3) rfl) (pss_cons (ps_fld (pv 1) (pv 4) rfl) (pss_one (ps_fldaug (pv 0) pe_int in_add))))))))
      (pss_one (ps_if (pt_cmpR op_eq (pe_fld (pv 1) rfl) pe_int (nomark _)) (pss_one (ps_raise rfl fliesX T.xFa G2 (hr.mono (by decide)) (by rfl) T.gFa b2 (pa_cons (pe_fld (pv 0) rfl) (pa_cons (pe_fld (pv 0) rfl) pa_nil)))) pss_nil)), ?_⟩
    refine ⟨TInv K a H r t ns rule k q mn v, ⟨_, v, 0, k, rfl, Nat.zero_le _, ⟨_, _, rfl⟩, Keep2.refl _ _ _, R, Dq, rfl⟩, ?_⟩
    rintro m σ H' ⟨u, c, j, rfl, hc, ⟨g1, g2, rfl⟩, kp, R', ⟨dq, hq⟩, e⟩
    obtain ⟨dx, hR⟩ := R'.ins
    refine ⟨_, rfl, r, dx, _, rfl, hR, rf_no _ _ _ (by decide +kernel), r, t, ns, rule, j, rfl, R', _, _, rfl, rfl, _, rfl, ?_⟩
    by_cases c1 : 0 ≤ pd ns j
    · rw [decide_eq_true c1]
      have hj : j < ns.length := pd_in R'.le c1
      refine iteT ⟨_, rfl, q, a.cDec, dq, _, _, rfl, hq, T.pDec.cl, T.pDec.no _ (by simp), df_scale _ _, _, _, rfl, rfl, _, rfl, ?_⟩
      by_cases c2 : c < 9
      · rw [decide_eq_true (show ((10 ^ c : Nat) : Int) < big by rw [hbig]; exact (pow_lt9 hc).mpr c2)]
        refine iteT ⟨fun σ' H2 => ∃ m', m' < 9 - c ∧ TInv K a H r t ns rule k q mn v m' σ' H2, fun _ _ y => y, ?_⟩
        have gr : (u : Int) * 10 + pd ns j = ((u * 10 + (pd ns j).toNat : Nat) : Int) := by omega
        have ef : 9 - c = (8 - c) + 1 := by omega
        refine ⟨_, rfl, q, a.cDec, dq, _, _, rfl, hq, T.pDec.cl, T.pDec.no _ (by simp), df_units _ _, _, _, rfl, rfl, .inr (by constructor <;> decide), ?_⟩
        refine ⟨_, rfl, r, dx, _, rfl, hR, rf_no _ _ _ (by decide +kernel), r, t, ns, rule, j, rfl, R', _, _, rfl, rfl, ?_⟩
        refine ⟨_, rfl, q, a.cDec, dq, _, _, rfl, hq, T.pDec.cl, T.pDec.no _ (by simp), df_scale _ _, _, _, rfl, rfl, .inr (by constructor <;> decide), ?_⟩
        have go : ¬ ((!mn) = true ∧ u * 10 + (pd ns j).toNat = 0 ∧ 8 - c = 0) → ∃ m', m' < 9 - c ∧ TInv K a H r t ns rule k q mn v m' [some (.ref r), some (.ref q), some (.bl mn), some (.int ((u : Int) * 10 + pd ns j)), some (.int (((10 ^ c : Nat) : Int) * 10))]
            (upd (upd (upd H' q (.ins a.cDec dq (putF "units" (.int ((u : Int) * 10 + pd ns j)) (df (u : Int) ((10 ^ c : Nat) : Int))))) q (.ins a.cDec dq (putF "scale" (.int (((10 ^ c : Nat) : Int) * 10)) (putF "units" (.int ((u : Int) * 10 + pd ns j)) (df (u : Int) ((10 ^ c : Nat) : Int)))))) r (.ins a.cRd dx (putF "at" (.int ((j : Int) + 1)) (rf t rule (j : Int))))) := fun hstop => by
          have kq : Keep q H' (upd (upd H' q (.ins a.cDec dq (putF "units" (.int ((u : Int) * 10 + pd ns j)) (df (u : Int) ((10 ^ c : Nat) : Int))))) q (.ins a.cDec dq (putF "scale" (.int (((10 ^ c : Nat) : Int) * 10)) (putF "units" (.int ((u : Int) * 10 + pd ns j)) (df (u : Int) ((10 ^ c : Nat) : Int)))))) := (Keep.upd _ _ _).trans (Keep.upd _ _ _)
          have Rq := R'.off hq nrq kq
          refine ⟨9 - (c + 1), by omega, u * 10 + (pd ns j).toNat, c + 1, j + 1, rfl, by omega, ⟨_, _, rfl⟩, kp.trans (kq.two'.trans (Keep.upd _ _ _).two), Rq.go (Keep.upd _ _ _) ⟨dx, ?_⟩ hj, ⟨dq, ?_⟩, ?_⟩
          · rw [upd_same, rf_put]
            have ej : ((j + 1 : Nat) : Int) = (j : Int) + 1 := by omega
            rw [ej]
          · rw [upd_ne (Ne.symm nrq), upd_same, df_putU, df_putS, gr]
            have ep : ((10 ^ (c + 1) : Nat) : Int) = ((10 ^ c : Nat) : Int) * 10 := by rw [Nat.pow_succ]; omega
            rw [ep]
          · rw [e, ef, tlM_go ⟨c1, hstop⟩]
            have : 8 - c = 9 - (c + 1) := by omega
            rw [this]
        have hRq : upd (upd H' q (.ins a.cDec dq (putF "units" (.int ((u : Int) * 10 + pd ns j)) (df (u : Int) ((10 ^ c : Nat) : Int))))) q (.ins a.cDec dq (putF "scale" (.int (((10 ^ c : Nat) : Int) * 10)) (putF "units" (.int ((u : Int) * 10 + pd ns j)) (df (u : Int) ((10 ^ c : Nat) : Int))))) r = some (.ins a.cRd dx (rf t rule (j : Int))) := by
          rw [upd_ne nrq, upd_ne nrq]; exact hR
        refine ⟨_, rfl, rfl, _, rfl, ?_⟩
        by_cases hu : u * 10 + (pd ns j).toNat = 0
        · rw [decide_eq_true (congrArg V.int (show (u : Int) * 10 + pd ns j = 0 by omega))]
          refine iteT ⟨_, rfl, rfl, _, rfl, ?_⟩
          by_cases h8 : c = 8
          · rw [decide_eq_true (congrArg V.int (show ((10 ^ c : Nat) : Int) * 10 = big by rw [hbig]; exact (pow_eq9 c2).mpr h8))]
            refine iteT ⟨_, rfl, _, rfl, ?_⟩
            cases mn with
            | false =>
              have ex : tlM ns (!false) 9 v 0 k = (u, c, j) := e.trans (tlM_stop fun f' z y => y.2 ⟨rfl, hu, by omega⟩)
              refine iteT ?_
              refine ⟨_, rfl, q, a.cDec, dq, _, _, rfl, hq, T.pDec.cl, T.pDec.no _ (by simp), df_scale _ _, rfl, _, rfl, ?_⟩
              by_cases c0 : c = 0
              · rw [decide_eq_true (congrArg V.int ((pow_eq1 hc).mpr c0))]
                exact iteT ⟨_, rfl, r, a.cRd, dx, _, _, rfl, hR, T.pRd.cl, T.pRd.no _ (by simp), rf_rule _ _ _, _, rfl, r, a.cRd, dx, _, _, rfl, hR, T.pRd.cl, T.pRd.no _ (by simp), rf_at _ _ _, (by show 2 ≤ sizeLine; decide), fun q hq => raise_fault rfl (res.er_ (tailM_er ex c0))⟩
              · rw [decide_eq_false fun y => c0 ((pow_eq1 hc).mp (V.int.inj y))]
                exact iteF (res.ok_ (tailM_ok ex c0) H' R' ⟨dq, hq⟩ kp)
            | true =>
              refine iteF ?_
              refine ⟨_, rfl, _, rfl, q, a.cDec, dq, _, rfl, hq, T.pDec.cl, T.pDec.no _ (by simp), (by show 2 < 1000; decide), ?_⟩
              refine ⟨_, rfl, _, rfl, q, a.cDec, dq, _, rfl, upd_same, T.pDec.cl, T.pDec.no _ (by simp), (by show 2 < 1000; decide), ?_⟩
              refine ⟨_, rfl, r, a.cRd, dx, _, _, rfl, hRq, T.pRd.cl, T.pRd.no _ (by simp), rf_at _ _ _, _, _, rfl, rfl, dx, _, hRq, (by show 3 < 1000; decide), ?_⟩
              exact go fun y => Bool.noConfusion y.1
          · rw [decide_eq_false fun y => h8 ((pow_eq9 c2).mp (by have z := V.int.inj y; rw [hbig] at z; exact z))]
            refine iteF (iteF ?_)
            refine ⟨_, rfl, _, rfl, q, a.cDec, dq, _, rfl, hq, T.pDec.cl, T.pDec.no _ (by simp), (by show 2 < 1000; decide), ?_⟩
            refine ⟨_, rfl, _, rfl, q, a.cDec, dq, _, rfl, upd_same, T.pDec.cl, T.pDec.no _ (by simp), (by show 2 < 1000; decide), ?_⟩
            refine ⟨_, rfl, r, a.cRd, dx, _, _, rfl, hRq, T.pRd.cl, T.pRd.no _ (by simp), rf_at _ _ _, _, _, rfl, rfl, dx, _, hRq, (by show 3 < 1000; decide), ?_⟩
            exact go fun y => by omega
        · rw [decide_eq_false fun y => hu (by have z := V.int.inj y; omega)]
          refine iteF (iteF ?_)
          refine ⟨_, rfl, _, rfl, q, a.cDec, dq, _, rfl, hq, T.pDec.cl, T.pDec.no _ (by simp), (by show 2 < 1000; decide), ?_⟩
          refine ⟨_, rfl, _, rfl, q, a.cDec, dq, _, rfl, upd_same, T.pDec.cl, T.pDec.no _ (by simp), (by show 2 < 1000; decide), ?_⟩
          refine ⟨_, rfl, r, a.cRd, dx, _, _, rfl, hRq, T.pRd.cl, T.pRd.no _ (by simp), rf_at _ _ _, _, _, rfl, rfl, dx, _, hRq, (by show 3 < 1000; decide), ?_⟩
          exact go fun y => hu y.2.1
      · rw [decide_eq_false fun y : ((10 ^ c : Nat) : Int) < big => c2 ((pow_lt9 hc).mp (by rw [hbig] at y; exact y))]
        have c9 : c = 9 := by omega
        have ex : tlM ns (!mn) 9 v 0 k = (u, c, j) := e.trans (tlM_stop fun f' z => by omega)
        refine iteF ?_
        refine ⟨_, rfl, q, a.cDec, dq, _, _, rfl, hq, T.pDec.cl, T.pDec.no _ (by simp), df_scale _ _, rfl, _, rfl, ?_⟩
        by_cases c0 : c = 0
        · rw [decide_eq_true (congrArg V.int ((pow_eq1 hc).mpr c0))]
          exact iteT ⟨_, rfl, r, a.cRd, dx, _, _, rfl, hR, T.pRd.cl, T.pRd.no _ (by simp), rf_rule _ _ _, _, rfl, r, a.cRd, dx, _, _, rfl, hR, T.pRd.cl, T.pRd.no _ (by simp), rf_at _ _ _, (by show 2 ≤ sizeLine; decide), fun q hq => raise_fault rfl (res.er_ (tailM_er ex c0))⟩
        · rw [decide_eq_false fun y => c0 ((pow_eq1 hc).mp (V.int.inj y))]
          exact iteF (res.ok_ (tailM_ok ex c0) H' R' ⟨dq, hq⟩ kp)
    · rw [decide_eq_false c1]
      have ex : tlM ns (!mn) 9 v 0 k = (u, c, j) := e.trans (tlM_stop fun f' z y => c1 y.1)
      refine iteF (iteF ?_)
      refine ⟨_, rfl, q, a.cDec, dq, _, _, rfl, hq, T.pDec.cl, T.pDec.no _ (by simp), df_scale _ _, rfl, _, rfl, ?_⟩
      by_cases c0 : c = 0
      · rw [decide_eq_true (congrArg V.int ((pow_eq1 hc).mpr c0))]
        exact iteT ⟨_, rfl, r, a.cRd, dx, _, _, rfl, hR, T.pRd.cl, T.pRd.no _ (by simp), rf_rule _ _ _, _, rfl, r, a.cRd, dx, _, _, rfl, hR, T.pRd.cl, T.pRd.no _ (by simp), rf_at _ _ _, (by show 2 ≤ sizeLine; decide), fun q hq => raise_fault rfl (res.er_ (tailM_er ex c0))⟩
      · rw [decide_eq_false fun y => c0 ((pow_eq1 hc).mp (V.int.inj y))]
        exact iteF (res.ok_ (tailM_ok ex c0) H' R' ⟨dq, hq⟩ kp)
end
end Ab

set_option Elab.async false
set_option linter.all false
set_option maxRecDepth 100000
set_option maxHeartbeats 2000000
namespace Ab
open PySem PySem.Spec PyProof.Rows L2
theorem df_no {m : Str} (u s : Int) (h : m ∉ (["units", "scale"] : List Str)) : (df u s).lookup m = none := by
  simp only [List.mem_cons, List.not_mem_nil, or_false, not_or] at h
  unfold df
  rw [List.lookup_cons, beq_eq_false_iff_ne.mpr h.1, List.lookup_cons, beq_eq_false_iff_ne.mpr h.2]
  rfl
theorem free_in {r q : Addr} {H H' : Hp} (kp : Keep r H H') (n : q ≠ r) (h : H' q = none) : H q = none := by
  cases z : H q with
  | none => rfl
  | some o => rw [kp _ _ z n] at h; cases h
section
variable {P : Program} {w : World} {K : PySem.W.Frag} {mg : Str → Option Value} {base : Heap} {a : Ad}
theorem sc_negated : FnScope ["self"] ["self"] (defScope s_negated) := ⟨rfl, rfl, rfl, by decide +kernel, rfl, by decide +kernel, by decide +kernel⟩
theorem ok_negated (T : Tx K mg a) : Good P w K mg base CX0 3 a.f_negated ["self"] (spNegd a) := by
  obtain ⟨fd, F, b⟩ := T.negated.ex
  obtain ⟨fd5, G5, b5, kp5⟩ := ok_initDec (P := P) (w := w) (base := base) T
  refine ⟨fd, F.ok sc_negated (fun vs H Q E h => ?_) (fun cdv A outer s H vs Q E hr h => ?_), b, F.kp⟩
  · obtain ⟨q, u, s, rfl, _⟩ := h; rfl
  · obtain ⟨q, u, s', rfl, ⟨dq, hq⟩, k⟩ := h
    refine ⟨_, pss_one (ps_ret (pe_make T.pDec.mak G5 hr (by rfl) T.pDec.glo b5 .nil pass0 (pa_cons (pe_un un_neg (pe_fld (pv 0) rfl)) (pa_cons (pe_fld (pv 0) rfl) pa_nil)))), ?_⟩
    refine ⟨_, rfl, q, a.cDec, dq, _, _, rfl, hq, T.pDec.cl, T.pDec.no _ (by simp), df_units _ _, _, rfl, ?_⟩
    refine ⟨_, rfl, q, a.cDec, dq, _, _, rfl, hq, T.pDec.cl, T.pDec.no _ (by simp), df_scale _ _, ?_⟩
    intro x dx2 nx nd ne
    refine ⟨x, dx2, _, _, rfl, upd_same, fun H4 h4 k4 => ⟨rfl, ?_⟩⟩
    exact k H4 x nx h4 (Same.made nx nd k4)
theorem sc_readUnsigned : FnScope ["self", "most_whole", "may_be_nought", "number"] ["self", "most_whole", "may_be_nought"] (defScope s_readUnsigned) := ⟨rfl, rfl, rfl, by decide +kernel, rfl, by decide +kernel, by decide +kernel⟩
theorem ok_readUnsigned (T : Tx K mg a) : Good P w K mg base (CXE P w) 5 a.f_readUnsigned ["self", "most_whole", "may_be_nought"] (spUns K a) := by
  obtain ⟨fd, F, b⟩ := T.readUnsigned.ex
  obtain ⟨fd1, G1, b1, kp1⟩ := ok_skip (P := P) (w := w) (base := base) T
  obtain ⟨fd2, G2, b2, kp2⟩ := ok_readBounded (P := P) (w := w) (base := base) T
  obtain ⟨fd3, G3, b3, kp3⟩ := ok_readTail (P := P) (w := w) (base := base) T
  obtain ⟨fd4, G4, b4, kp4⟩ := ok_initFa (P := P) (w := w) (base := base) T
  obtain ⟨fd5, G5, b5, kp5⟩ := ok_initDec (P := P) (w := w) (base := base) T
  obtain ⟨t3, hP⟩ := T.k_POINT
  refine ⟨fd, F.okX sc_readUnsigned (fun vs H Q E h => ?_) (fun cdv A outer s H vs Q E hr h => ?_), b, F.kp⟩
  · obtain ⟨r, t, ns, rule, k, most, mn, rfl, _⟩ := h; rfl
  · obtain ⟨r, t, ns, rule, k, most, mn, rfl, hm, R, res⟩ := h
    have hr3 : Room 3 (A.deeper (envOfC "Reader.read_unsigned" (defScope s_readUnsigned) s.heap.objs.size a.f_readUnsigned cdv)) := hr.mono (by decide)
    have hr2 : Room 2 (A.deeper (envOfC "Reader.read_unsigned" (defScope s_readUnsigned) s.heap.objs.size a.f_readUnsigned cdv)) := hr.mono (by decide)
    have rest2 : ∃ tt, PSs (cxOf (CXE P w) P w K mg base ["self", "most_whole", "may_be_nought", "number"] "Reader.read_unsigned" (defScope s_readUnsigned) a.f_readUnsigned cdv A outer s H E) ((defBody s_readUnsigned).drop 2) tt ∧
        ∀ (u m k3 : Nat) (H3 : Hp) (q : Addr), RdAt K a H3 r t ns rule k3 → DcAt a H3 q (u : Int) ((10 ^ m : Nat) : Int) → Keep r H H3 → H q = none → unsM ns most (!mn) k = (if (!mn) = true ∧ u = 0 then .error k3 else .ok (u, m, k3)) →
          tt { nx := fun _ H' => Q .non H', rt := Q } [some (.ref r), some (.int (most : Int)), some (.bl mn), some (.ref q)] H3 := by
      refine ⟨_, pss_cons (ps_if (pw_and (pt_cmpR op_eq (pe_fld (pv 3) rfl) pe_int (nomark _)) (pw_and1 (pt_not (pt_val (pv 2))))).pt
          (pss_one (ps_raise rfl fliesX T.xFa G4 hr2 (by rfl) T.gFa b4 (pa_cons (pe_fld (pv 0) rfl) (pa_cons (pe_fld (pv 0) rfl) pa_nil)))) pss_nil)
        (pss_one (ps_ret (pv 3))), ?_⟩
      rintro u m k3 H3 q R3 ⟨dq, hq⟩ kp3 nq e
      obtain ⟨dx, hR⟩ := R3.ins
      refine ⟨_, rfl, q, a.cDec, dq, _, _, rfl, hq, T.pDec.cl, T.pDec.no _ (by simp), df_units _ _, rfl, _, rfl, ?_⟩
      by_cases hu : u = 0
      · rw [decide_eq_true (congrArg V.int (show (u : Int) = 0 by omega))]
        refine iteT ⟨_, rfl, _, rfl, ?_⟩
        cases mn with
        | true =>
          rw [if_neg fun y => Bool.noConfusion y.1] at e
          exact iteF ⟨_, rfl, res.ok_ e H3 q R3 nq ⟨dq, hq⟩ kp3⟩
        | false =>
          rw [if_pos ⟨rfl, hu⟩] at e
          exact iteT ⟨_, rfl, r, a.cRd, dx, _, _, rfl, hR, T.pRd.cl, T.pRd.no _ (by simp), rf_rule _ _ _, _, rfl, r, a.cRd, dx, _, _, rfl, hR, T.pRd.cl, T.pRd.no _ (by simp), rf_at _ _ _, (by show 2 ≤ sizeLine; decide), fun q hq => raise_fault rfl (res.er_ e)⟩
      · rw [decide_eq_false fun y => hu (by have z := V.int.inj y; omega)]
        rw [if_neg fun y => hu y.2] at e
        exact iteF (iteF ⟨_, rfl, res.ok_ e H3 q R3 nq ⟨dq, hq⟩ kp3⟩)
    obtain ⟨tt2, ht2, cont2⟩ := rest2
    refine ⟨_, pss_cons (ps_set (i := 3) sc_readUnsigned.nd rfl (Or.inl rfl) (pe_make T.pDec.mak G5 hr2 (by rfl) T.pDec.glo b5 .nil pass0 (pa_cons (pe_meth (pv 0) T.pRd.cl T.m_readBounded G2 hr b2 .nil passX (pa_cons pe_int (pa_cons (pv 1) pa_nil))) (pa_cons pe_int pa_nil))))
        (pss_cons (ps_if (pt_val (pe_meth (pv 0) T.pRd.cl T.m_skip G1 hr3 b1 .nil pass0 (pa_cons (pe_glob (v := .int 46) (by rfl) hP ⟨_, rfl⟩) pa_nil)))
          (pss_one (ps_expr (pe_meth (pv 0) T.pRd.cl T.m_readTail G3 hr b3 .nil passX (pa_cons (pv 3) (pa_cons (pv 2) pa_nil))))) pss_nil) ht2), ?_⟩
    obtain ⟨dx, hR⟩ := R.ins
    refine ⟨_, rfl, r, dx, _, rfl, hR, rf_no _ _ _ (by decide +kernel), _, rfl, r, t, ns, rule, k, 0, most, rfl, hm, R, ?_⟩
    cases hb : rb ns 0 most k with
    | error p => exact res.er_ (by unfold unsM; rw [hb])
    | ok x =>
      obtain ⟨v, k2⟩ := x
      intro H2 R2 kp2
      intro q dq nq nd ne
      refine ⟨q, dq, (v : Int), 1, rfl, upd_same, fun H3 h3 k3 => ⟨rfl, ?_⟩⟩
      have s3 : Same H2 H3 := Same.made nq nd k3
      have R3 := R2.same s3
      obtain ⟨dx3, hR3⟩ := R3.ins
      obtain ⟨dx2, hR2⟩ := R2.ins
      have nrq : r ≠ q := ne_of_none hR2 nq
      have nq0 : H q = none := free_in kp2 (Ne.symm nrq) nq
      have kp3 : Keep r H H3 := kp2.trans fun b o z _ => s3 b o z
      refine ⟨_, rfl, r, dx3, _, rfl, hR3, rf_no _ _ _ (by decide +kernel), r, t, ns, rule, k2, 46, rfl, by decide, R3, fun n => ?_, fun n H4 R4 kp4 => ?_⟩
      · exact ⟨_, rfl, iteF (cont2 v 0 k2 H3 q R3 h3 kp3 nq0 (by unfold unsM; rw [hb]; dsimp only; rw [if_neg n]))⟩
      · obtain ⟨dx4, hR4⟩ := R4.ins
        obtain ⟨dq3, hq3⟩ := h3
        refine ⟨_, rfl, iteT ⟨_, rfl, r, dx4, _, rfl, hR4, rf_no _ _ _ (by decide +kernel), _, rfl, _, rfl, r, t, ns, rule, k2 + 1, q, mn, v, rfl, R4, ⟨dq3, kp4 _ _ hq3 (Ne.symm nrq)⟩, nrq, ?_⟩⟩
        cases ht : tailM ns (!mn) v (k2 + 1) with
        | error p => exact res.er_ (by unfold unsM; rw [hb]; dsimp only; rw [if_pos n, ht])
        | ok y =>
          obtain ⟨u, m, k3'⟩ := y
          intro H5 R5 D5 kp5
          refine cont2 u m k3' H5 q R5 D5 (fun b o z zr => ?_) nq0 (by unfold unsM; rw [hb]; dsimp only; rw [if_pos n, ht])
          exact kp5 b o (kp4 b o (kp3 b o z zr) zr) zr (ne_of_none z nq0)
theorem sc_readDecimal : FnScope ["self", "may_be_below", "may_be_nought"] ["self", "may_be_below", "may_be_nought"] (defScope s_readDecimal) := ⟨rfl, rfl, rfl, by decide +kernel, rfl, by decide +kernel, by decide +kernel⟩
theorem ok_readDecimal (T : Tx K mg a) : Good P w K mg base (CXE P w) 6 a.f_readDecimal ["self", "may_be_below", "may_be_nought"] (spDecm K a) := by
  obtain ⟨fd, F, b⟩ := T.readDecimal.ex
  obtain ⟨fd1, G1, b1, kp1⟩ := ok_skip (P := P) (w := w) (base := base) T
  obtain ⟨fd2, G2, b2, kp2⟩ := ok_readUnsigned (P := P) (w := w) (base := base) T
  obtain ⟨fd3, G3, b3, kp3⟩ := ok_negated (P := P) (w := w) (base := base) T
  obtain ⟨t1, hM⟩ := T.k_MINUS
  obtain ⟨t2, hW⟩ := T.k_MOST_WHOLE
  refine ⟨fd, F.okX sc_readDecimal (fun vs H Q E h => ?_) (fun cdv A outer s H vs Q E hr h => ?_), b, F.kp⟩
  · obtain ⟨r, t, ns, rule, k, mb, mn, rfl, _⟩ := h; rfl
  · obtain ⟨r, t, ns, rule, k, mb, mn, rfl, R, res⟩ := h
    have hr3 : Room 3 (A.deeper (envOfC "Reader.read_decimal" (defScope s_readDecimal) s.heap.objs.size a.f_readDecimal cdv)) := hr.mono (by decide)
    have hr2 : Room 2 (A.deeper (envOfC "Reader.read_decimal" (defScope s_readDecimal) s.heap.objs.size a.f_readDecimal cdv)) := hr.mono (by decide)
    refine ⟨_, pss_cons (ps_if (pw_and (pt_val (pv 1)) (pw_and1 (pt_val (pe_meth (pv 0) T.pRd.cl T.m_skip G1 hr3 b1 .nil pass0 (pa_cons (pe_glob (v := .int 45) (by rfl) hM ⟨_, rfl⟩) pa_nil))))).pt
        (pss_one (ps_ret (pe_meth0 (pe_meth (pv 0) T.pRd.cl T.m_readUnsigned G2 hr b2 .nil passX (pa_cons (pe_glob (v := .int 999999999999999999) (by rfl) hW ⟨_, rfl⟩) (pa_cons pe_bl pa_nil))) T.pDec.cl T.m_negated G3 hr3 b3 .nil pass0))) pss_nil)
      (pss_one (ps_ret (pe_meth (pv 0) T.pRd.cl T.m_readUnsigned G2 hr b2 .nil passX (pa_cons (pe_glob (v := .int 999999999999999999) (by rfl) hW ⟨_, rfl⟩) (pa_cons (pv 2) pa_nil))))), ?_⟩
    obtain ⟨dx, hR⟩ := R.ins
    have plain : (mb && decide (pk ns k = 45)) = false → tRet (tMeth a.cRd "read_unsigned" (spUns K a) [] E (tVar 0) (tCons (tC (.int 999999999999999999)) (tCons (tVar 2) tNil))) { nx := fun _ H' => Q .non H', rt := Q } [some (.ref r), some (.bl mb), some (.bl mn)] H := fun hf => by
      have e := decG_uns ns MOST mb (!mn) k
      rw [hf, if_neg Bool.false_ne_true] at e
      refine ⟨_, rfl, r, dx, _, rfl, hR, rf_no _ _ _ (by decide +kernel), _, rfl, r, t, ns, rule, k, MOST, mn, rfl, by decide, R, ?_⟩
      cases hb : unsM ns MOST (!mn) k with
      | error p => exact res.er_ (show decG ns MOST mb (!mn) k = _ by rw [e, hb]; rfl)
      | ok x => exact res.ok_ (v := ((x.1 : Int), x.2.1, x.2.2)) (show decG ns MOST mb (!mn) k = _ by rw [e, hb]; rfl)
    refine ⟨_, rfl, mb, rfl, ?_⟩
    cases mb with
    | false => exact iteF (iteF (plain rfl))
    | true =>
      refine iteT ⟨_, rfl, r, dx, _, rfl, hR, rf_no _ _ _ (by decide +kernel), r, t, ns, rule, k, 45, rfl, by decide, R, fun n => ?_, fun n H1 R1 k1 => ?_⟩
      · exact ⟨_, rfl, iteF (plain (by rw [decide_eq_false n]; rfl))⟩
      · have e := decG_uns ns MOST true (!mn) k
        rw [decide_eq_true n, if_pos (Bool.and_self true)] at e
        obtain ⟨dx1, hR1⟩ := R1.ins
        refine ⟨_, rfl, iteT ⟨_, rfl, r, dx1, _, rfl, hR1, rf_no _ _ _ (by decide +kernel), r, t, ns, rule, k + 1, MOST, false, rfl, by decide, R1, ?_⟩⟩
        show Res (unsM ns MOST true (k + 1)) _ _
        cases hb : unsM ns MOST true (k + 1) with
        | error p => exact res.er_ (show decG ns MOST true (!mn) k = _ by rw [e, hb]; rfl)
        | ok x =>
          obtain ⟨u, m, k3⟩ := x
          intro H2 q R2 nq D2 kp2
          obtain ⟨dq, hq⟩ := D2
          refine ⟨q, dq, _, rfl, hq, df_no _ _ (by decide +kernel), q, _, _, rfl, ⟨dq, hq⟩, fun H3 p np D3 s3 => ?_⟩
          obtain ⟨dx2, hR2⟩ := R2.ins
          have npr : p ≠ r := Ne.symm (ne_of_none hR2 np)
          exact res.ok_ (v := (-(u : Int), m, k3)) (show decG ns MOST true (!mn) k = _ by rw [e, hb]; rfl) H3 p (R2.same s3) (free_in (k1.trans kp2) npr np) D3 ((k1.trans kp2).trans fun b o z _ => s3 b o z)
end
end Ab

set_option Elab.async false
set_option linter.all false
set_option maxRecDepth 100000
set_option maxHeartbeats 2000000
namespace Ab
open PySem PySem.Spec PyProof.Rows L2
def Kd.txt : Kd → Str
  | .sum => "sum"
  | .product => "product"
  | .quotient => "quotient"
  | .root => "root"
theorem Kd.txt_codes : ∀ d : Kd, d.txt.cps.toList = d.codes
  | .sum => by decide +kernel
  | .product => by decide +kernel
  | .quotient => by decide +kernel
  | .root => by decide +kernel
/-! ### the table of kinds, an object of the module -/
def kindKV (u0 u1 u2 u3 : Tok) : List (Key × Value) := [(Sum.inl 115, .str "sum" u0), (Sum.inl 112, .str "product" u1), (Sum.inl 113, .str "quotient" u2), (Sum.inl 114, .str "root" u3)]
theorem kind_at (u0 u1 u2 u3 : Tok) (n : Int) : (∃ d u, kdAt n = some d ∧ valueAt (kindKV u0 u1 u2 u3) (Sum.inl n) = some (.str d.txt u)) ∨ (kdAt n = none ∧ valueAt (kindKV u0 u1 u2 u3) (Sum.inl n) = none) := by
  by_cases h1 : n = 115
  · subst h1; exact .inl ⟨.sum, u0, rfl, rfl⟩
  by_cases h2 : n = 112
  · subst h2; exact .inl ⟨.product, u1, rfl, rfl⟩
  by_cases h3 : n = 113
  · subst h3; exact .inl ⟨.quotient, u2, rfl, rfl⟩
  by_cases h4 : n = 114
  · subst h4; exact .inl ⟨.root, u3, rfl, rfl⟩
  refine .inr ⟨by unfold kdAt; rw [if_neg h1, if_neg h2, if_neg h3, if_neg h4], ?_⟩
  unfold valueAt kindKV
  simp [Ne.symm h1, Ne.symm h2, Ne.symm h3, Ne.symm h4]
theorem kind_dict {P : Program} {w : World} {K : PySem.W.Frag} {mg : Str → Option Value} {a : Ad} {h : Heap} (T : Tx K mg a) (X : K.In h) : ∃ u0 u1 u2 u3, h.DictOf (mixKind P w) a.d_KIND_BY_BYTE (kindKV u0 u1 u2 u3) := by
  obtain ⟨ep, t0, u0, t1, u1, t2, u2, t3, u3, lk⟩ := T.o_KIND_BY_BYTE
  refine ⟨u0, u1, u2, u3, _, _, ep, X _ _ lk, ⟨rfl, rfl, rfl⟩, rfl, fun e he => ?_, ?_, by show ([Sum.inl 115, Sum.inl 112, Sum.inl 113, Sum.inl 114] : List Key).Nodup; decide⟩
  · simp only [List.mem_toArray, List.mem_cons, List.not_mem_nil, or_false] at he
    rcases he with rfl | rfl | rfl | rfl
    · exact ⟨Sum.inl 115, keyIs_int 115 t0, rfl⟩
    · exact ⟨Sum.inl 112, keyIs_int 112 t1, rfl⟩
    · exact ⟨Sum.inl 113, keyIs_int 113 t2, rfl⟩
    · exact ⟨Sum.inl 114, keyIs_int 114 t3, rfl⟩
  · exact .cons (keyIs_int 115 t0) rfl (.cons (keyIs_int 112 t1) rfl (.cons (keyIs_int 113 t2) rfl (.cons (keyIs_int 114 t3) rfl .nil)))
section
variable {X : Cx} {a : Ad} {i : Expr} {ty : TE} {p pos : Pos}
theorem pc_kind (T : Tx X.K X.mg a) (hg : Gl X "KIND_BY_BYTE") (hi : PE X i ty) : PC X .NotIn i (.Name "KIND_BY_BYTE" p) (fun σ H Q => ty σ H fun y H1 => ∃ n, y = .int n ∧ Q (.bl (decide (kdAt n = none))) H1) := by
  intro pins s σ H Q I h
  refine thn (hi pins s σ H _ I h) fun iv s1 ⟨y, H1, I1, ry, n, ey, q1⟩ => ?_
  refine ld_glob I1 hg T.k_KIND_BY_BYTE ?_ (by decide)
  subst ey
  obtain ⟨u0, u1, u2, u3, dd⟩ := kind_dict (P := X.prog) (w := X.w) T I1.kIn
  refine wpAny_notIn_of (kV_is (k := Sum.inl n) ry) T.y_KIND_BY_BYTE dd.mapOf ?_
  rcases kind_at u0 u1 u2 u3 n with ⟨d, u, e1, e2⟩ | ⟨e1, e2⟩
  · rw [e2]
    rw [e1] at q1
    exact ⟨.bl false, H1, I1.tok _, rfl, q1⟩
  · rw [e2]
    rw [e1] at q1
    exact ⟨.bl true, H1, I1.tok _, rfl, q1⟩
theorem pe_kind (T : Tx X.K X.mg a) (hg : Gl X "KIND_BY_BYTE") (hi : PE X i ty) (hs : NoSl i) : PE X (.Subscript (.Name "KIND_BY_BYTE" p) i pos) (fun σ H Q => ty σ H fun y H1 => ∃ n d, y = .int n ∧ kdAt n = some d ∧ Q (.str d.txt) H1) := by
  intro pins s σ H Q I h
  refine subD_of PySem.F.slot_dict_getitem.lookup hs (ld_glob I hg T.k_KIND_BY_BYTE (thn (hi pins s σ H _ I h) fun iv s2 ⟨y, H2, I2, ry, n, d, ey, ed, q2⟩ => ?_) (by decide))
  subst ey
  obtain ⟨u0, u1, u2, u3, dd⟩ := kind_dict (P := X.prog) (w := X.w) T I2.kIn
  refine ⟨dd.typeIs, ?_⟩
  rcases kind_at u0 u1 u2 u3 n with ⟨d', u, e1, e2⟩ | ⟨e1, e2⟩
  · rw [ed] at e1
    cases e1
    exact wpAny_getItem_of (kV_is (k := Sum.inl n) ry) dd.mapOf e2 ⟨.str d.txt, H2, I2.tok _, ⟨u, rfl⟩, q2⟩
  · rw [ed] at e1; cases e1
end
def spKind (K : PySem.W.Frag) (a : Ad) : Sp := fun vs H Q E => ∃ r t ns rule k, vs = [.ref r] ∧ RdAt K a H r t ns rule k ∧ Res (kindM ns k) (fun x => ∀ H' : Hp, RdAt K a H' r t ns rule x.2 → Keep r H H' → Q (.str x.1.txt) H') (Thr a E rule)
section
variable {P : Program} {w : World} {K : PySem.W.Frag} {mg : Str → Option Value} {base : Heap} {a : Ad}
theorem sc_readKind : FnScope ["reader", "byte", "kind"] ["reader"] (defScope s_readKind) := ⟨rfl, rfl, rfl, by decide +kernel, rfl, by decide +kernel, by decide +kernel⟩
theorem ok_readKind (T : Tx K mg a) : Good P w K mg base (CXE P w) 6 a.f_readKind ["reader"] (spKind K a) := by
  obtain ⟨fd, F, b⟩ := T.readKind.ex
  obtain ⟨fd1, G1, b1, kp1⟩ := ok_peek (P := P) (w := w) (base := base) T
  obtain ⟨fd2, G2, b2, kp2⟩ := ok_readWords (P := P) (w := w) (base := base) T
  obtain ⟨fd4, G4, b4, kp4⟩ := ok_initFa (P := P) (w := w) (base := base) T
  refine ⟨fd, F.okX sc_readKind (fun vs H Q E h => ?_) (fun cdv A outer s H vs Q E hr h => ?_), b, F.kp⟩
  · obtain ⟨r, t, ns, rule, k, rfl, _⟩ := h; rfl
  · obtain ⟨r, t, ns, rule, k, rfl, R, res⟩ := h
    obtain ⟨dx, hR⟩ := R.ins
    refine ⟨_, pss_cons (ps_set (i := 1) sc_readKind.nd rfl (Or.inl rfl) (pe_meth0 (pv 0) T.pRd.cl T.m_peek G1 (hr.mono (by decide)) b1 .nil pass0))
      (pss_cons (ps_if (pt_cmp (pc_kind T (by rfl) (pv 1)) (by rfl)) (pss_one (ps_raise rfl fliesX T.xFa G4 (hr.mono (by decide)) (by rfl) T.gFa b4 (pa_cons (pe_fld (pv 0) rfl) (pa_cons (pe_fld (pv 0) rfl) pa_nil)))) pss_nil)
      (pss_cons (ps_set (i := 2) sc_readKind.nd rfl (Or.inl rfl) (pe_kind T (by rfl) (pv 1) (fun _ _ => rfl)))
      (pss_cons (ps_expr (pe_meth (pv 0) T.pRd.cl T.m_readWords G2 (hr.mono (by decide)) b2 .nil passX (pa_cons (pv 2) pa_nil)))
      (pss_one (ps_ret (pv 2)))))), ?_⟩
    refine ⟨_, rfl, r, dx, _, rfl, hR, rf_no _ _ _ (by decide +kernel), r, t, ns, rule, k, rfl, R, ?_⟩
    refine ⟨_, rfl, pk ns k, rfl, _, rfl, ?_⟩
    cases hk : kdAt (pk ns k) with
    | none =>
      have e : kindM ns k = .error k := by unfold kindM; rw [hk]
      refine iteT ⟨_, rfl, r, a.cRd, dx, _, _, rfl, hR, T.pRd.cl, T.pRd.no _ (by simp), rf_rule _ _ _, _, rfl, r, a.cRd, dx, _, _, rfl, hR, T.pRd.cl, T.pRd.no _ (by simp), rf_at _ _ _, (by show 2 ≤ sizeLine; decide), fun q hq => raise_fault rfl (res.er_ e)⟩
    | some d =>
      have e : kindM ns k = (exW ns d.codes k).map fun k' => (d, k') := by unfold kindM; rw [hk]
      refine iteF ⟨_, rfl, pk ns k, d, rfl, hk, ?_⟩
      refine ⟨_, rfl, r, dx, _, rfl, hR, rf_no _ _ _ (by decide +kernel), _, rfl, r, t, ns, rule, k, d.txt, rfl, R, ?_⟩
      rw [Kd.txt_codes]
      cases hx : exW ns d.codes k with
      | error q => exact res.er_ (by rw [e, hx]; rfl)
      | ok k' => exact fun H' R' k1 => ⟨_, rfl, res.ok_ (v := (d, k')) (by rw [e, hx]; rfl) H' R' k1⟩
end
end Ab

set_option Elab.async false
set_option linter.all false
set_option maxRecDepth 100000
set_option maxHeartbeats 2000000
namespace Ab
open PySem PySem.Spec PyProof.Rows L2
/-- Decimals, one after another, none of them at r -/
def DecsAt (a : Ad) (r : Addr) (H : Hp) : List Addr → List (Int × Nat) → Prop
  | [], [] => True
  | q :: qs, d :: ds => q ≠ r ∧ DcAt a H q d.1 ((10 ^ d.2 : Nat) : Int) ∧ DecsAt a r H qs ds
  | _, _ => False
theorem DecsAt.mono {a : Ad} {r : Addr} {H H' : Hp} (h : ∀ q u s, q ≠ r → DcAt a H q u s → DcAt a H' q u s) : ∀ {qs : List Addr} {ds : List (Int × Nat)}, DecsAt a r H qs ds → DecsAt a r H' qs ds
  | [], [], _ => True.intro
  | q :: qs, d :: ds, x => ⟨x.1, h _ _ _ x.1 x.2.1, DecsAt.mono h x.2.2⟩
  | [], _ :: _, x => x.elim
  | _ :: _, [], x => x.elim
theorem DecsAt.snoc {a : Ad} {r : Addr} {H : Hp} {q : Addr} {d : Int × Nat} (nq : q ≠ r) (hq : DcAt a H q d.1 ((10 ^ d.2 : Nat) : Int)) : ∀ {qs : List Addr} {ds : List (Int × Nat)}, DecsAt a r H qs ds → DecsAt a r H (qs ++ [q]) (ds ++ [d])
  | [], [], _ => ⟨nq, hq, True.intro⟩
  | _ :: qs, _ :: ds, x => ⟨x.1, x.2.1, DecsAt.snoc nq hq x.2.2⟩
  | [], _ :: _, x => x.elim
  | _ :: _, [], x => x.elim
theorem DecsAt.len {a : Ad} {r : Addr} {H : Hp} : ∀ {qs : List Addr} {ds : List (Int × Nat)}, DecsAt a r H qs ds → qs.length = ds.length
  | [], [], _ => rfl
  | _ :: qs, _ :: ds, x => by rw [List.length_cons, List.length_cons, DecsAt.len x.2.2]
  | [], _ :: _, x => x.elim
  | _ :: _, [], x => x.elim
theorem DecsAt.keep {a : Ad} {r : Addr} {H H' : Hp} {qs : List Addr} {ds : List (Int × Nat)} (x : DecsAt a r H qs ds) (k : Keep r H H') : DecsAt a r H' qs ds := x.mono fun q u s n ⟨dx, e⟩ => ⟨dx, k _ _ e n⟩
/-- .. where only the list at l has changed -/
theorem DecsAt.putl {a : Ad} {r l : Addr} {H H' : Hp} {xs : List V} {qs : List Addr} {ds : List (Int × Nat)} (x : DecsAt a r H qs ds) (hl : H l = some (.lst xs)) (k : Keep l H H') : DecsAt a r H' qs ds :=
  x.mono fun q u s n ⟨dx, e⟩ => ⟨dx, k _ _ e (ne_of e hl (by intro z; cases z))⟩
structure NumsAt (a : Ad) (r : Addr) (H : Hp) (l : Addr) (ds : List (Int × Nat)) : Prop where
  ne : l ≠ r
  ex : ∃ qs : List Addr, H l = some (.lst (qs.map V.ref)) ∧ DecsAt a r H qs ds
theorem NumsAt.keep {a : Ad} {r l : Addr} {H H' : Hp} {ds : List (Int × Nat)} (x : NumsAt a r H l ds) (k : Keep r H H') : NumsAt a r H' l ds := by
  obtain ⟨qs, e, d⟩ := x.ex
  exact ⟨x.ne, qs, k _ _ e x.ne, d.keep k⟩
theorem RdAt.offl {K : PySem.W.Frag} {a : Ad} {H H' : Hp} {r t l : Addr} {ns : List Int} {rule : Int} {k : Nat} {xs : List V} (R : RdAt K a H r t ns rule k) (nt : t ≠ l ∨ ∀ H', SqL K H' t (ns.map V.int)) (hl : H l = some (.lst xs)) (hk : Keep l H H') : RdAt K a H' r t ns rule k := by
  obtain ⟨dxr, hr⟩ := R.ins
  refine ⟨⟨dxr, hk _ _ hr (ne_of hr hl (by intro z; cases z))⟩, ?_, R.le⟩
  rcases nt with nt | nt
  case inr => exact nt H'
  rcases R.txt with (z | ⟨o, z⟩) | z
  · exact .inl (.inl (hk _ _ z nt))
  · exact .inl (.inr ⟨o, hk _ _ z nt⟩)
  · exact .inr z
def spRows (K : PySem.W.Frag) (a : Ad) : Sp := fun vs H Q E => ∃ r t ns rule k, vs = [.ref r] ∧ RdAt K a H r t ns rule k ∧ Res (rowsAll ns k) (fun x => ∀ (H' : Hp) (l : Addr), RdAt K a H' r t ns rule x.2 → H l = none → NumsAt a r H' l (x.1.map fun z => (z, 0)) → Keep r H H' → Q (.ref l) H') (Thr a E rule)
def RInv (K : PySem.W.Frag) (a : Ad) (H : Hp) (r t : Addr) (ns : List Int) (rule : Int) (n k2 : Nat) (l : Addr) (m : Nat) (σ : L2.St) (H' : Hp) : Prop :=
  ∃ (zs : List Int) (j : Nat), m = n - zs.length ∧ zs.length ≤ n ∧ σ = [some (.ref r), some (.int (n : Int)), some (.ref l)] ∧ Keep r H H' ∧ RdAt K a H' r t ns rule j ∧ NumsAt a r H' l (zs.map fun z => (z, 0)) ∧
    rowsM ns n k2 = (rowsM ns (n - zs.length) j).map fun x => (zs ++ x.1, x.2)
theorem rowsM_go {ns : List Int} {n j j1 j2 : Nat} {z : Int} (h1 : rowM ns j = .ok (z, j1)) (h2 : exW ns [10] j1 = .ok j2) : rowsM ns (n + 1) j = (rowsM ns n j2).map fun x => (z :: x.1, x.2) := by
  show (match rowM ns j with | .error p => _ | .ok (z, k1) => _) = _
  rw [h1]
  dsimp only
  rw [h2]
theorem rowsM_er1 {ns : List Int} {n j p : Nat} (h1 : rowM ns j = .error p) : rowsM ns (n + 1) j = .error p := by
  show (match rowM ns j with | .error p => _ | .ok (z, k1) => _) = _
  rw [h1]
theorem rowsM_er2 {ns : List Int} {n j j1 p : Nat} {z : Int} (h1 : rowM ns j = .ok (z, j1)) (h2 : exW ns [10] j1 = .error p) : rowsM ns (n + 1) j = .error p := by
  show (match rowM ns j with | .error p => _ | .ok (z, k1) => _) = _
  rw [h1]
  dsimp only
  rw [h2]
section
variable {P : Program} {w : World} {K : PySem.W.Frag} {mg : Str → Option Value} {base : Heap} {a : Ad}
theorem sc_readRows : FnScope ["reader", "rows", "numbers"] ["reader"] (defScope s_readRows) := ⟨rfl, rfl, rfl, by decide +kernel, rfl, by decide +kernel, by decide +kernel⟩
theorem rb_le {ns : List Int} {lo hi k : Nat} (hh : hi < 10 ^ 45) {x : Nat × Nat} (h : rb ns lo hi k = .ok x) : x.1 ≤ hi := by
  have key : ∀ f v j, v ≤ hi → (rbl ns lo hi k f v j).1 ≤ hi := by
    intro f
    induction f with
    | zero => intro v j hv; exact hv
    | succ f ih =>
      intro v j hv
      unfold rbl
      split
      · rename_i c
        refine ih _ _ ?_
        have hl := c.2.2
        unfold ldB at hl
        split at hl
        · omega
        · obtain ⟨i, _, q⟩ := List.any_eq_true.mp hl
          simp only [Bool.and_eq_true, decide_eq_true_eq] at q
          have : (v * 10 + (pd ns j).toNat) * 1 ≤ (v * 10 + (pd ns j).toNat) * 10 ^ i := Nat.mul_le_mul_left _ (Nat.pow_pos (by decide))
          omega
      · exact hv
  unfold rb at h
  dsimp only at h
  split at h
  · cases h
  · injection h with h
    rw [← h]
    exact key _ _ _ (Nat.zero_le _)
theorem ok_readRows (T : Tx K mg a) : Good P w K mg base (CXE P w) 7 a.f_readRows ["reader"] (spRows K a) := by
  obtain ⟨fd, F, b⟩ := T.readRows.ex
  obtain ⟨tf, hf⟩ := T.k_FEWEST_ROWS
  obtain ⟨tm, hm⟩ := T.k_MOST_ROWS
  obtain ⟨fd1, G1, b1, kp1⟩ := ok_readBounded (P := P) (w := w) (base := base) T
  obtain ⟨fd2, G2, b2, kp2⟩ := ok_readWords (P := P) (w := w) (base := base) T
  obtain ⟨fd3, G3, b3, kp3⟩ := ok_readWhole (P := P) (w := w) (base := base) T
  obtain ⟨fd5, G5, b5, kp5⟩ := ok_initDec (P := P) (w := w) (base := base) T
  refine ⟨fd, F.okX sc_readRows (fun vs H Q E h => ?_) (fun cdv A outer s H vs Q E hr h => ?_), b, F.kp⟩
  · obtain ⟨r, t, ns, rule, k, rfl, _⟩ := h; rfl
  · obtain ⟨r, t, ns, rule, k, rfl, R, res⟩ := h
    obtain ⟨dx, hR⟩ := R.ins
    refine ⟨_, pss_cons (ps_set (i := 1) sc_readRows.nd rfl (Or.inl rfl) (pe_meth (pv 0) T.pRd.cl T.m_readBounded G1 (hr.mono (by decide)) b1 .nil passX (pa_cons (pe_glob (v := .int 2) (by rfl) hf ⟨_, rfl⟩) (pa_cons (pe_glob (v := .int 64) (by rfl) hm ⟨_, rfl⟩) pa_nil))))
      (pss_cons (ps_expr (pe_meth (pv 0) T.pRd.cl T.m_readWords G2 (hr.mono (by decide)) b2 .nil passX (pa_cons pe_str pa_nil)))
      (pss_cons (ps_set (i := 2) sc_readRows.nd rfl (Or.inl rfl) (pe_lst pa_nil))
      (pss_cons (ps_while ownX (pt_cmpR op_lt (pe_callB call_len_seq (by rfl) T.b_len PySem.boot_len (pa_cons (pv 2) pa_nil)) (pv 1) (nomark _))
        (pss_cons (ps_expr (pe_bm PySem.F.plainAttrs_list PySem.F.slot_list_append PySem.F.type_list_append mt_append (pv 2) (pa_cons (pe_make T.pDec.mak G5 (hr.mono (by decide)) (by rfl) T.pDec.glo b5 .nil pass0 (pa_cons (pe_meth0 (pv 0) T.pRd.cl T.m_readWhole G3 (hr.mono (by decide)) b3 .nil passX) (pa_cons pe_int pa_nil))) pa_nil)))
        (pss_one (ps_expr (pe_meth (pv 0) T.pRd.cl T.m_readWords G2 (hr.mono (by decide)) b2 .nil passX (pa_cons pe_str pa_nil))))))
      (pss_one (ps_ret (pv 2)))))), ?_⟩
    refine ⟨_, rfl, r, dx, _, rfl, hR, rf_no _ _ _ (by decide +kernel), r, t, ns, rule, k, 2, 64, rfl, by decide, R, ?_⟩
    cases hb : rb ns 2 64 k with
    | error p => exact res.er_ (by unfold rowsAll; rw [hb])
    | ok x =>
      obtain ⟨n, k1⟩ := x
      intro H1 R1 kp1
      obtain ⟨dx1, hR1⟩ := R1.ins
      have hn : n ≤ 64 := rb_le (by decide) hb
      refine ⟨_, rfl, r, dx1, _, rfl, hR1, rf_no _ _ _ (by decide +kernel), r, t, ns, rule, k1, "\n", rfl, R1, ?_⟩
      have ew : ("\n" : Str).cps.toList = [10] := by decide +kernel
      rw [ew]
      cases hx : exW ns [10] k1 with
      | error p => exact res.er_ (by unfold rowsAll; rw [hb]; dsimp only; rw [hx])
      | ok k2 =>
        intro H2 R2 kp2
        have eall : rowsAll ns k = rowsM ns n k2 := by unfold rowsAll; rw [hb]; dsimp only; rw [hx]
        have kp02 : Keep r H H2 := kp1.trans kp2
        obtain ⟨dx2, hR2⟩ := R2.ins
        refine ⟨Nat.zero_le _, fun l hl => ?_⟩
        have nlr : l ≠ r := Ne.symm (ne_of_none hR2 hl)
        have nl0 : H l = none := by
          cases z : H l with
          | none => rfl
          | some o => rw [kp02 _ _ z nlr] at hl; cases hl
        have s3 : Same H2 (upd H2 l (.lst [])) := fun b o z => by rw [upd_ne (ne_of_none z hl)]; exact z
        have dis : t ≠ l ∨ ∀ H', SqL K H' t (ns.map V.int) := by
          rcases R2.txt with (z | ⟨o, z⟩) | z
          · exact .inl (ne_of_none z hl)
          · exact .inl (ne_of_none z hl)
          · exact .inr fun _ => .inr z
        refine ⟨RInv K a H r t ns rule n k2 l, ⟨_, [], k2, rfl, Nat.zero_le _, rfl, kp02.trans fun b o z _ => s3 b o z, R2.same s3, ⟨nlr, [], upd_same, True.intro⟩, ?_⟩, ?_⟩
        · show rowsM ns n k2 = (rowsM ns n k2).map fun x => ([] ++ x.1, x.2)
          cases rowsM ns n k2 with
          | error p => rfl
          | ok x => rfl
        · rintro m σ H' ⟨zs, j, rfl, hz, rfl, kp, R', N', e⟩
          obtain ⟨dx', hR'⟩ := R'.ins
          obtain ⟨qs, hl', D'⟩ := N'.ex
          have lq : qs.length = zs.length := by rw [D'.len, List.length_map]
          refine ⟨_, rfl, l, _, rfl, .inl (SqL.of hl'), _, rfl, _, _, rfl, rfl, _, rfl, ?_⟩
          rw [List.length_map, lq]
          by_cases c : zs.length < n
          · rw [decide_eq_true (show ((zs.length : Nat) : Int) < (n : Int) by omega)]
            refine iteT ⟨fun σ' H2 => ∃ m', m' < n - zs.length ∧ RInv K a H r t ns rule n k2 l m' σ' H2, fun _ _ y => y, ?_⟩
            have en : n - zs.length = (n - (zs.length + 1)) + 1 := by omega
            refine ⟨_, rfl, .inl ⟨rfl, _, SqL.of hl'⟩, _, rfl, r, dx', _, rfl, hR', rf_no _ _ _ (by decide +kernel), r, t, ns, rule, j, rfl, R', ?_⟩
            cases hrow : rowM ns j with
            | error p => exact res.er_ (by rw [eall, e, en, rowsM_er1 hrow]; rfl)
            | ok x =>
              obtain ⟨z, j1⟩ := x
              intro H3 R3 kp3
              intro q dq nq nd ne
              refine ⟨q, dq, z, 1, rfl, upd_same, fun H4 h4 k4 => ⟨rfl, ?_⟩⟩
              have s4 : Same H3 H4 := Same.made nq nd k4
              have hl3 := kp3 _ _ hl' N'.ne
              have hl4 := s4 _ _ hl3
              have R4 := R3.same s4
              obtain ⟨dx3, hR3⟩ := R3.ins
              have nqr : q ≠ r := Ne.symm (ne_of_none hR3 nq)
              obtain ⟨dq4, hq4⟩ := h4
              have nql : q ≠ l := ne_of hq4 hl4 (by intro z; cases z)
              refine ⟨l, _, _, rfl, rfl, hl4, ?_, ?_⟩
              · rw [List.length_map, lq]
                exact Nat.lt_of_lt_of_le (Nat.lt_of_lt_of_le c hn) (by decide)
              have R5 := R4.offl dis hl4 (Keep.upd l H4 (.lst (qs.map V.ref ++ [V.ref q])))
              obtain ⟨dx5, hR5⟩ := R5.ins
              refine ⟨_, rfl, r, dx5, _, rfl, hR5, rf_no _ _ _ (by decide +kernel), r, t, ns, rule, j1, "\n", rfl, R5, ?_⟩
              rw [ew]
              cases hx2 : exW ns [10] j1 with
              | error p => exact res.er_ (by rw [eall, e, en, rowsM_er2 hrow hx2]; rfl)
              | ok j2 =>
                intro H6 R6 kp6
                refine ⟨n - (zs ++ [z]).length, by rw [List.length_append]; simp only [List.length_cons, List.length_nil]; omega, zs ++ [z], j2, rfl, by rw [List.length_append]; simp only [List.length_cons, List.length_nil]; omega, rfl, fun b o zb zr => ?_, R6, ⟨nlr, qs ++ [q], ?_, ?_⟩, ?_⟩
                · exact kp6 _ _ (by rw [upd_ne (ne_of_none zb nl0)]; exact s4 _ _ (kp3 _ _ (kp _ _ zb zr) zr)) zr
                · exact kp6 _ _ (by rw [upd_same, List.map_append]; rfl) nlr
                · rw [List.map_append]
                  refine DecsAt.keep ?_ kp6
                  refine DecsAt.snoc nqr ⟨dq4, ?_⟩ ?_
                  · rw [upd_ne nql]; exact hq4
                  · exact ((D'.keep kp3).keep fun b o zb _ => s4 b o zb).putl hl4 (Keep.upd _ _ _)
                · have el : n - (zs ++ [z]).length = n - (zs.length + 1) := by rw [List.length_append]; rfl
                  rw [e, en, el, rowsM_go hrow hx2]
                  cases hq : rowsM ns (n - (zs.length + 1)) j2 with
                  | error p => rfl
                  | ok y =>
                    show Except.ok (zs ++ z :: y.1, y.2) = Except.ok ((zs ++ [z]) ++ y.1, y.2)
                    rw [List.append_assoc]
                    rfl
          · rw [decide_eq_false (show ¬ ((zs.length : Nat) : Int) < (n : Int) by omega)]
            have en : n - zs.length = 0 := by omega
            rw [en] at e
            refine iteF ⟨_, rfl, ?_⟩
            have e2 : rowsAll ns k = .ok (zs, j) := by rw [eall, e]; show Except.ok (zs ++ [], j) = _; rw [List.append_nil]
            exact res.ok_ e2 H' l R' nl0 N' kp
end
end Ab

set_option Elab.async false
set_option linter.all false
set_option maxRecDepth 100000
set_option maxHeartbeats 2000000
namespace Ab
open PySem PySem.Spec PyProof.Rows L2
theorem txt_ne_root : ∀ d : Kd, (!decide (V.str d.txt = V.str "root")) = decide (d ≠ .root)
  | .sum => by decide +kernel
  | .product => by decide +kernel
  | .quotient => by decide +kernel
  | .root => by decide +kernel
theorem txt_ne_quot : ∀ d : Kd, (!decide (V.str d.txt = V.str "quotient")) = !decide (d = .quotient)
  | .sum => by decide +kernel
  | .product => by decide +kernel
  | .quotient => by decide +kernel
  | .root => by decide +kernel
theorem txt_eq_sum : ∀ d : Kd, decide (V.str d.txt = V.str "sum") = decide (d = .sum)
  | .sum => by decide +kernel
  | .product => by decide +kernel
  | .quotient => by decide +kernel
  | .root => by decide +kernel
theorem ex32 : (" " : Str).cps.toList = [32] := by decide +kernel
theorem ex10 : ("\n" : Str).cps.toList = [10] := by decide +kernel
theorem free_of {r l : Addr} {H H' : Hp} (k : Keep r H H') (n : l ≠ r) (h : H' l = Option.none) : H l = Option.none := by
  cases z : H l with
  | none => rfl
  | some o => rw [k _ _ z n] at h; cases h
theorem dis_of {K : PySem.W.Frag} {a : Ad} {H : Hp} {r t l : Addr} {ns : List Int} {rule : Int} {k : Nat} (R : RdAt K a H r t ns rule k) (hl : H l = Option.none) : t ≠ l ∨ ∀ H', SqL K H' t (ns.map V.int) := by
  rcases R.txt with (z | ⟨o, z⟩) | z
  · exact .inl (ne_of_none z hl)
  · exact .inl (ne_of_none z hl)
  · exact .inr fun _ => .inr z
def spOps (K : PySem.W.Frag) (a : Ad) : Sp := fun vs H Q E => ∃ r t ns rule k, ∃ d : Kd, vs = [.ref r, .str d.txt] ∧ RdAt K a H r t ns rule k ∧ Res (opsM ns d k) (fun x => ∀ (H' : Hp) (l : Addr), RdAt K a H' r t ns rule x.2 → H l = none → NumsAt a r H' l x.1 → Keep r H H' → Q (.ref l) H') (Thr a E rule)
/-- a Problem stands at q, its list of numbers at l -/
structure PrAt (a : Ad) (r : Addr) (H : Hp) (q l : Addr) (x : PM) : Prop where
  ne : q ≠ r
  ins : ∃ dx, H q = some (.ins a.cPr dx (pf (x.pts : Int) x.kd.txt l (x.pl : Int)))
  nums : NumsAt a r H l x.nums
def spProb (K : PySem.W.Frag) (a : Ad) : Sp := fun vs H Q E => ∃ r t ns rule k, vs = [.ref r] ∧ RdAt K a H r t ns rule k ∧ Res (probM ns k) (fun x => ∀ (H' : Hp) (q l : Addr), RdAt K a H' r t ns rule x.2 → H q = none → H l = none → PrAt a r H' q l x.1 → Keep r H H' → Q (.ref q) H') (Thr a E rule)
section
variable {P : Program} {w : World} {K : PySem.W.Frag} {mg : Str → Option Value} {base : Heap} {a : Ad}
theorem sc_readOperands : FnScope ["reader", "kind", "numbers"] ["reader", "kind"] (defScope s_readOperands) := ⟨rfl, rfl, rfl, by decide +kernel, rfl, by decide +kernel, by decide +kernel⟩
theorem ok_readOperands (T : Tx K mg a) : Good P w K mg base (CXE P w) 7 a.f_readOperands ["reader", "kind"] (spOps K a) := by
  obtain ⟨fd, F, b⟩ := T.readOperands.ex
  obtain ⟨fd1, G1, b1, kp1⟩ := ok_readDecimal (P := P) (w := w) (base := base) T
  obtain ⟨fd2, G2, b2, kp2⟩ := ok_readWords (P := P) (w := w) (base := base) T
  refine ⟨fd, F.okX sc_readOperands (fun vs H Q E h => ?_) (fun cdv A outer s H vs Q E hr h => ?_), b, F.kp⟩
  · obtain ⟨r, t, ns, rule, k, d, rfl, _⟩ := h; rfl
  · obtain ⟨r, t, ns, rule, k, d, rfl, R, res⟩ := h
    obtain ⟨dx, hR⟩ := R.ins
    refine ⟨_, pss_cons (ps_set (i := 2) sc_readOperands.nd rfl (Or.inl rfl) (pe_lst (pa_cons (pe_meth (pv 0) T.pRd.cl T.m_readDecimal G1 (hr.mono (by decide)) b1 .nil passX (pa_cons (pe_cmpR op_ne (pv 1) pe_str (nomark _)) (pa_cons pe_bl pa_nil))) pa_nil)))
      (pss_cons (ps_expr (pe_meth (pv 0) T.pRd.cl T.m_readWords G2 (hr.mono (by decide)) b2 .nil passX (pa_cons pe_str pa_nil)))
      (pss_cons (ps_if (pt_cmpR op_ne (pv 1) pe_str (nomark _))
        (pss_cons (ps_expr (pe_bm PySem.F.plainAttrs_list PySem.F.slot_list_append PySem.F.type_list_append mt_append (pv 2) (pa_cons (pe_meth (pv 0) T.pRd.cl T.m_readDecimal G1 (hr.mono (by decide)) b1 .nil passX (pa_cons pe_bl (pa_cons (pe_cmpR op_ne (pv 1) pe_str (nomark _)) pa_nil))) pa_nil)))
        (pss_one (ps_expr (pe_meth (pv 0) T.pRd.cl T.m_readWords G2 (hr.mono (by decide)) b2 .nil passX (pa_cons pe_str pa_nil))))) pss_nil)
      (pss_one (ps_ret (pv 2))))), ?_⟩
    refine ⟨_, rfl, r, dx, _, rfl, hR, rf_no _ _ _ (by decide +kernel), _, rfl, rfl, r, t, ns, rule, k, _, true, rfl, R, ?_⟩
    rw [txt_ne_root]
    cases h1 : decM ns (decide (d ≠ .root)) (!true) k with
    | error p =>
      have h1' : decM ns (decide (d ≠ .root)) false k = .error p := h1
      exact res.er_ (by unfold opsM; rw [h1'])
    | ok x =>
      have h1' : decM ns (decide (d ≠ .root)) false k = .ok x := h1
      obtain ⟨u, m, k1⟩ := x
      intro H1 q R1 nq Dq kp1
      refine ⟨by show 1 ≤ sizeLine; decide, fun l hl => ?_⟩
      obtain ⟨dx1, hR1⟩ := R1.ins
      have nlr : l ≠ r := Ne.symm (ne_of_none hR1 hl)
      have nqr : q ≠ r := Ne.symm (ne_of_none hR nq)
      have nl0 : H l = none := free_of kp1 nlr hl
      have dis := dis_of R1 hl
      have s2 : Same H1 (upd H1 l (.lst [.ref q])) := fun b o z => by rw [upd_ne (ne_of_none z hl)]; exact z
      have R2 := R1.same s2
      obtain ⟨dx2, hR2⟩ := R2.ins
      obtain ⟨dq, hq⟩ := Dq
      have N2 : NumsAt a r (upd H1 l (.lst [.ref q])) l [(u, m)] := ⟨nlr, [q], upd_same, nqr, ⟨dq, s2 _ _ hq⟩, True.intro⟩
      have kp2 : Keep r H (upd H1 l (.lst [.ref q])) := kp1.trans fun b o z _ => s2 b o z
      refine ⟨_, rfl, r, dx2, _, rfl, hR2, rf_no _ _ _ (by decide +kernel), r, t, ns, rule, k1, " ", rfl, R2, ?_⟩
      rw [ex32]
      cases hx : exW ns [32] k1 with
      | error p => exact res.er_ (by unfold opsM; rw [h1']; dsimp only; rw [hx])
      | ok k2 =>
        intro H3 R3 kp3
        have N3 := N2.keep kp3
        obtain ⟨dx3, hR3⟩ := R3.ins
        refine ⟨_, rfl, rfl, _, rfl, ?_⟩
        rw [txt_ne_root]
        by_cases hd : d = .root
        · rw [decide_eq_false (fun z => z hd)]
          refine iteF ⟨_, rfl, ?_⟩
          exact res.ok_ (v := ([(u, m)], k2)) (by unfold opsM; rw [h1']; dsimp only; rw [hx]; dsimp only; rw [if_pos hd]) H3 l R3 nl0 N3 (kp2.trans kp3)
        · rw [decide_eq_true hd]
          obtain ⟨qs3, hl3, D3⟩ := N3.ex
          refine iteT ⟨_, rfl, .inl ⟨rfl, _, SqL.of hl3⟩, _, rfl, r, dx3, _, rfl, hR3, rf_no _ _ _ (by decide +kernel), _, rfl, rfl, r, t, ns, rule, k2, true, _, rfl, R3, ?_⟩
          rw [txt_ne_quot, Bool.not_not]
          cases h2 : decM ns true (decide (d = .quotient)) k2 with
          | error p => exact res.er_ (by unfold opsM; rw [h1']; dsimp only; rw [hx]; dsimp only; rw [if_neg hd, h2])
          | ok y =>
            obtain ⟨u2, m2, k3⟩ := y
            intro H4 q2 R4 nq2 Dq2 kp4
            have nq2r : q2 ≠ r := Ne.symm (ne_of_none hR3 nq2)
            have hl4 := kp4 _ _ hl3 nlr
            have nq2l : q2 ≠ l := Ne.symm (ne_of_none hl3 nq2)
            have lq : qs3.length = 1 := D3.len
            obtain ⟨dq2, hq2⟩ := Dq2
            refine ⟨l, _, _, rfl, rfl, hl4, ?_, ?_⟩
            · rw [List.length_map, lq]
              decide
            have R5 := R4.offl dis hl4 (Keep.upd l H4 (.lst (qs3.map V.ref ++ [V.ref q2])))
            obtain ⟨dx5, hR5⟩ := R5.ins
            have N5 : NumsAt a r (upd H4 l (.lst (qs3.map V.ref ++ [V.ref q2]))) l [(u, m), (u2, m2)] :=
              ⟨nlr, qs3 ++ [q2], by rw [upd_same, List.map_append]; rfl, DecsAt.snoc (d := (u2, m2)) nq2r ⟨dq2, by rw [upd_ne nq2l]; exact hq2⟩ ((D3.keep kp4).putl hl4 (Keep.upd _ _ _))⟩
            have kp5 : Keep r H (upd H4 l (.lst (qs3.map V.ref ++ [V.ref q2]))) := fun b o z zr => by rw [upd_ne (ne_of_none z nl0)]; exact kp4 _ _ (kp3 _ _ (kp2 _ _ z zr) zr) zr
            refine ⟨_, rfl, r, dx5, _, rfl, hR5, rf_no _ _ _ (by decide +kernel), r, t, ns, rule, k3, " ", rfl, R5, ?_⟩
            rw [ex32]
            cases hx2 : exW ns [32] k3 with
            | error p => exact res.er_ (by unfold opsM; rw [h1']; dsimp only; rw [hx]; dsimp only; rw [if_neg hd, h2]; dsimp only; rw [hx2]; rfl)
            | ok k4 =>
              intro H6 R6 kp6
              exact ⟨_, rfl, res.ok_ (v := ([(u, m), (u2, m2)], k4)) (by unfold opsM; rw [h1']; dsimp only; rw [hx]; dsimp only; rw [if_neg hd, h2]; dsimp only; rw [hx2]; rfl) H6 l R6 nl0 (N5.keep kp6) (kp5.trans kp6)⟩
end
end Ab

set_option Elab.async false
set_option linter.all false
set_option maxRecDepth 100000
set_option maxHeartbeats 2000000
namespace Ab
open PySem PySem.Spec PyProof.Rows L2
theorem PrAt.keep {a : Ad} {r q l : Addr} {H H' : Hp} {x : PM} (p : PrAt a r H q l x) (k : Keep r H H') : PrAt a r H' q l x :=
  let ⟨dx, e⟩ := p.ins
  ⟨p.ne, ⟨dx, k _ _ e p.ne⟩, p.nums.keep k⟩
theorem NumsAt.same {a : Ad} {r l : Addr} {H H' : Hp} {ds : List (Int × Nat)} (x : NumsAt a r H l ds) (k : Same H H') : NumsAt a r H' l ds := x.keep fun b o z _ => k b o z
section
variable {P : Program} {w : World} {K : PySem.W.Frag} {mg : Str → Option Value} {base : Heap} {a : Ad}
theorem sc_readProblem : FnScope ["reader", "points", "kind", "numbers", "places"] ["reader"] (defScope s_readProblem) := ⟨rfl, rfl, rfl, by decide +kernel, rfl, by decide +kernel, by decide +kernel⟩
theorem ok_readProblem (T : Tx K mg a) : Good P w K mg base (CXE P w) 9 a.f_readProblem ["reader"] (spProb K a) := by
  obtain ⟨fd, F, b⟩ := T.readProblem.ex
  obtain ⟨fd1, G1, b1, kp1⟩ := ok_readBounded (P := P) (w := w) (base := base) T
  obtain ⟨fd2, G2, b2, kp2⟩ := ok_readWords (P := P) (w := w) (base := base) T
  obtain ⟨fd3, G3, b3, kp3⟩ := ok_readKind (P := P) (w := w) (base := base) T
  obtain ⟨fd4, G4, b4, kp4⟩ := ok_readRows (P := P) (w := w) (base := base) T
  obtain ⟨fd5, G5, b5, kp5⟩ := ok_readOperands (P := P) (w := w) (base := base) T
  obtain ⟨fd6, G6, b6, kp6⟩ := ok_initPr (P := P) (w := w) (base := base) T
  refine ⟨fd, F.okX sc_readProblem (fun vs H Q E h => ?_) (fun cdv A outer s H vs Q E hr h => ?_), b, F.kp⟩
  · obtain ⟨r, t, ns, rule, k, rfl, _⟩ := h; rfl
  · obtain ⟨r, t, ns, rule, k, rfl, R, res⟩ := h
    obtain ⟨dx, hR⟩ := R.ins
    refine ⟨_, pss_cons (ps_set (i := 1) sc_readProblem.nd rfl (Or.inl rfl) (pe_meth (pv 0) T.pRd.cl T.m_readBounded G1 (hr.mono (by decide)) b1 .nil passX (pa_cons pe_int (pa_cons pe_int pa_nil))))
      (pss_cons (ps_expr (pe_meth (pv 0) T.pRd.cl T.m_readWords G2 (hr.mono (by decide)) b2 .nil passX (pa_cons pe_str pa_nil)))
      (pss_cons (ps_set (i := 2) sc_readProblem.nd rfl (Or.inl rfl) (pe_call G3 (hr.mono (by decide)) (by rfl) T.g_readKind kp3 b3 .nil passX (pa_cons (pv 0) pa_nil)))
      (pss_cons (ps_expr (pe_meth (pv 0) T.pRd.cl T.m_readWords G2 (hr.mono (by decide)) b2 .nil passX (pa_cons pe_str pa_nil)))
      (pss_cons (ps_if (pt_cmpR op_eq (pv 2) pe_str (nomark _)) (pss_one (ps_ret (pe_make T.pPr.mak G6 (hr.mono (by decide)) (by rfl) T.pPr.glo b6 .nil pass0 (pa_cons (pv 1) (pa_cons (pv 2) (pa_cons (pe_call G4 (hr.mono (by decide)) (by rfl) T.g_readRows kp4 b4 .nil passX (pa_cons (pv 0) pa_nil)) (pa_cons pe_int pa_nil))))))) pss_nil)
      (pss_cons (ps_set (i := 3) sc_readProblem.nd rfl (Or.inl rfl) (pe_call G5 (hr.mono (by decide)) (by rfl) T.g_readOperands kp5 b5 .nil passX (pa_cons (pv 0) (pa_cons (pv 2) pa_nil))))
      (pss_cons (ps_set (i := 4) sc_readProblem.nd rfl (Or.inl rfl) (pe_meth (pv 0) T.pRd.cl T.m_readBounded G1 (hr.mono (by decide)) b1 .nil passX (pa_cons pe_int (pa_cons pe_int pa_nil))))
      (pss_cons (ps_expr (pe_meth (pv 0) T.pRd.cl T.m_readWords G2 (hr.mono (by decide)) b2 .nil passX (pa_cons pe_str pa_nil)))
      (pss_one (ps_ret (pe_make T.pPr.mak G6 (hr.mono (by decide)) (by rfl) T.pPr.glo b6 .nil pass0 (pa_cons (pv 1) (pa_cons (pv 2) (pa_cons (pv 3) (pa_cons (pv 4) pa_nil)))))))))))))), ?_⟩
    refine ⟨_, rfl, r, dx, _, rfl, hR, rf_no _ _ _ (by decide +kernel), r, t, ns, rule, k, 1, 999, rfl, by decide, R, ?_⟩
    cases hb : rb ns 1 999 k with
    | error p => exact res.er_ (by unfold probM; rw [hb])
    | ok x =>
      obtain ⟨pts, k1⟩ := x
      intro H1 R1 kp1
      obtain ⟨dx1, hR1⟩ := R1.ins
      refine ⟨_, rfl, r, dx1, _, rfl, hR1, rf_no _ _ _ (by decide +kernel), r, t, ns, rule, k1, " ", rfl, R1, ?_⟩
      rw [ex32]
      cases hx : exW ns [32] k1 with
      | error p => exact res.er_ (by unfold probM; rw [hb]; dsimp only; rw [hx])
      | ok k2 =>
        intro H2 R2 kp2
        have kq2 : Keep r H H2 := kp1.trans kp2
        refine ⟨_, rfl, r, t, ns, rule, k2, rfl, R2, ?_⟩
        cases hk : kindM ns k2 with
        | error p => exact res.er_ (by unfold probM; rw [hb]; dsimp only; rw [hx]; dsimp only; rw [hk])
        | ok y =>
          obtain ⟨d, k3⟩ := y
          intro H3 R3 kp3
          obtain ⟨dx3, hR3⟩ := R3.ins
          have kq3 : Keep r H H3 := kq2.trans kp3
          refine ⟨_, rfl, r, dx3, _, rfl, hR3, rf_no _ _ _ (by decide +kernel), r, t, ns, rule, k3, " ", rfl, R3, ?_⟩
          rw [ex32]
          cases hx2 : exW ns [32] k3 with
          | error p => exact res.er_ (by unfold probM; rw [hb]; dsimp only; rw [hx]; dsimp only; rw [hk]; dsimp only; rw [hx2])
          | ok k4 =>
            intro H4 R4 kp4
            have kq4 : Keep r H H4 := kq3.trans kp4
            obtain ⟨dx4, hR4⟩ := R4.ins
            refine ⟨_, rfl, rfl, _, rfl, ?_⟩
            rw [txt_eq_sum]
            by_cases hd : d = .sum
            · subst hd
              rw [decide_eq_true rfl]
              have ep : probM ns k = (rowsAll ns k4).map fun x => (⟨pts, .sum, x.1.map fun z => (z, 0), 0⟩, x.2) := by unfold probM; rw [hb]; dsimp only; rw [hx]; dsimp only; rw [hk]; dsimp only; rw [hx2]; dsimp only; rw [if_pos rfl]
              refine iteT ⟨_, rfl, _, rfl, _, rfl, r, t, ns, rule, k4, rfl, R4, ?_⟩
              cases hr2 : rowsAll ns k4 with
              | error p => exact res.er_ (by rw [ep, hr2]; rfl)
              | ok z =>
                obtain ⟨zs, k5⟩ := z
                intro H5 l R5 nl N5 kp5
                intro q dq nq nd ne
                refine ⟨q, dq, l, (pts : Int), 0, Kd.txt .sum, rfl, upd_same, fun H6 h6 k6 => ⟨rfl, ?_⟩⟩
                have s6 : Same H5 H6 := Same.made nq nd k6
                obtain ⟨dx5, hR5⟩ := R5.ins
                have nqr : q ≠ r := Ne.symm (ne_of_none hR5 nq)
                have kq5 : Keep r H H5 := kq4.trans kp5
                obtain ⟨dq6, hq6⟩ := h6
                exact res.ok_ (v := (⟨pts, .sum, zs.map fun z => (z, 0), 0⟩, k5)) (by rw [ep, hr2]; rfl) H6 q l (R5.same s6) (free_of kq5 nqr nq) (free_of kq4 N5.ne nl) ⟨nqr, ⟨dq6, hq6⟩, N5.same s6⟩ (kq5.trans fun b o z _ => s6 b o z)
            · rw [decide_eq_false hd]
              refine iteF ⟨_, rfl, _, rfl, r, t, ns, rule, k4, d, rfl, R4, ?_⟩
              cases ho : opsM ns d k4 with
              | error p => exact res.er_ (by unfold probM; rw [hb]; dsimp only; rw [hx]; dsimp only; rw [hk]; dsimp only; rw [hx2]; dsimp only; rw [if_neg hd, ho])
              | ok z =>
                obtain ⟨ds, k5⟩ := z
                intro H5 l R5 nl N5 kp5
                obtain ⟨dx5, hR5⟩ := R5.ins
                have kq5 : Keep r H H5 := kq4.trans kp5
                refine ⟨_, rfl, r, dx5, _, rfl, hR5, rf_no _ _ _ (by decide +kernel), r, t, ns, rule, k5, 0, 9, rfl, by decide, R5, ?_⟩
                cases hp : rb ns 0 9 k5 with
                | error p => exact res.er_ (by unfold probM; rw [hb]; dsimp only; rw [hx]; dsimp only; rw [hk]; dsimp only; rw [hx2]; dsimp only; rw [if_neg hd, ho]; dsimp only; rw [hp])
                | ok z =>
                  obtain ⟨pl, k6⟩ := z
                  intro H6 R6 kp6
                  have N6 := N5.keep kp6
                  have kq6 : Keep r H H6 := kq5.trans kp6
                  obtain ⟨dx6, hR6⟩ := R6.ins
                  refine ⟨_, rfl, r, dx6, _, rfl, hR6, rf_no _ _ _ (by decide +kernel), r, t, ns, rule, k6, "\n", rfl, R6, ?_⟩
                  rw [ex10]
                  cases hx3 : exW ns [10] k6 with
                  | error p => exact res.er_ (by unfold probM; rw [hb]; dsimp only; rw [hx]; dsimp only; rw [hk]; dsimp only; rw [hx2]; dsimp only; rw [if_neg hd, ho]; dsimp only; rw [hp]; dsimp only; rw [hx3]; rfl)
                  | ok k7 =>
                    intro H7 R7 kp7
                    have N7 := N6.keep kp7
                    have kq7 : Keep r H H7 := kq6.trans kp7
                    obtain ⟨dx7, hR7⟩ := R7.ins
                    refine ⟨_, rfl, _, rfl, _, rfl, _, rfl, ?_⟩
                    intro q dq nq nd ne
                    refine ⟨q, dq, l, (pts : Int), (pl : Int), d.txt, rfl, upd_same, fun H8 h8 k8 => ⟨rfl, ?_⟩⟩
                    have s8 : Same H7 H8 := Same.made nq nd k8
                    have nqr : q ≠ r := Ne.symm (ne_of_none hR7 nq)
                    obtain ⟨dq8, hq8⟩ := h8
                    exact res.ok_ (v := (⟨pts, d, ds, pl⟩, k7)) (by unfold probM; rw [hb]; dsimp only; rw [hx]; dsimp only; rw [hk]; dsimp only; rw [hx2]; dsimp only; rw [if_neg hd, ho]; dsimp only; rw [hp]; dsimp only; rw [hx3]; rfl) H8 q l (R7.same s8) (free_of kq7 nqr nq) (free_of kq4 N5.ne nl) ⟨nqr, ⟨dq8, hq8⟩, N7.same s8⟩ (kq7.trans fun b o z _ => s8 b o z)
end
end Ab

set_option Elab.async false
set_option linter.all false
set_option maxRecDepth 100000
set_option maxHeartbeats 2000000
namespace Ab
open PySem PySem.Spec PyProof.Rows L2
/-- Problems, one after another; no list of numbers at l0 -/
def PrsAll (a : Ad) (r l0 : Addr) (H : Hp) : List Addr → List PM → Prop
  | [], [] => True
  | q :: qs, x :: xs => (∃ l, l ≠ l0 ∧ PrAt a r H q l x) ∧ PrsAll a r l0 H qs xs
  | _, _ => False
theorem PrsAll.mono {a : Ad} {r l0 : Addr} {H H' : Hp} (h : ∀ q l x, l ≠ l0 → PrAt a r H q l x → PrAt a r H' q l x) : ∀ {qs : List Addr} {xs : List PM}, PrsAll a r l0 H qs xs → PrsAll a r l0 H' qs xs
  | [], [], _ => True.intro
  | _ :: _, _ :: _, ⟨⟨l, n, y⟩, z⟩ => ⟨⟨l, n, h _ _ _ n y⟩, PrsAll.mono h z⟩
  | [], _ :: _, y => y.elim
  | _ :: _, [], y => y.elim
theorem PrsAll.snoc {a : Ad} {r l0 : Addr} {H : Hp} {q l : Addr} {x : PM} (n : l ≠ l0) (hq : PrAt a r H q l x) : ∀ {qs : List Addr} {xs : List PM}, PrsAll a r l0 H qs xs → PrsAll a r l0 H (qs ++ [q]) (xs ++ [x])
  | [], [], _ => ⟨⟨l, n, hq⟩, True.intro⟩
  | _ :: _, _ :: _, y => ⟨y.1, PrsAll.snoc n hq y.2⟩
  | [], _ :: _, y => y.elim
  | _ :: _, [], y => y.elim
theorem PrsAll.len {a : Ad} {r l0 : Addr} {H : Hp} : ∀ {qs : List Addr} {xs : List PM}, PrsAll a r l0 H qs xs → qs.length = xs.length
  | [], [], _ => rfl
  | _ :: _, _ :: _, y => by rw [List.length_cons, List.length_cons, PrsAll.len y.2]
  | [], _ :: _, y => y.elim
  | _ :: _, [], y => y.elim
theorem PrAt.putl {a : Ad} {r l0 q l : Addr} {H H' : Hp} {x : PM} {xs : List V} (p : PrAt a r H q l x) (n : l ≠ l0) (hl : H l0 = some (.lst xs)) (k : Keep l0 H H') : PrAt a r H' q l x := by
  obtain ⟨dx, e⟩ := p.ins
  obtain ⟨qs, e2, D⟩ := p.nums.ex
  exact ⟨p.ne, ⟨dx, k _ _ e (ne_of e hl (by intro z; cases z))⟩, p.nums.ne, qs, k _ _ e2 n, D.putl hl k⟩
/-- the problems of a sheet stand in the list at l -/
def ShAt (a : Ad) (H : Hp) (l : Addr) (xs : List PM) : Prop := ∃ r qs, H l = some (.lst (qs.map V.ref)) ∧ PrsAll a r l H qs xs
def ThrL (a : Ad) (E : XK) : Prop := ∀ (H' : Hp) (dx l : Addr), H' dx = some (.xd [("answered", .ref l)]) → H' l = some (.lst [.int (-6)]) → E (.ref a.cTL) (some dx) H'
def spShR (K : PySem.W.Frag) (a : Ad) : Sp := fun vs H Q E => ∃ t ns, vs = [.ref t] ∧ SqL K H t (ns.map V.int) ∧ ns.length ≤ 16500 ∧ Res (sheetM ns (ns.length + 1) 0) (fun xs => ∀ (H' : Hp) (l : Addr), ShAt a H' l xs → Same H H' → H l = none → Q (.ref l) H') (Thr a E 12)
def spChk (K : PySem.W.Frag) (a : Ad) : Sp := fun vs H Q E => ∃ t, ∃ ns : List Int, vs = [.ref t] ∧ SqL K H t (ns.map V.int) ∧ (¬ 16384 < ns.length → Q .non H) ∧ (16384 < ns.length → ThrL a E)
def spPrs (K : PySem.W.Frag) (a : Ad) : Sp := fun vs H Q E => ∃ t ns, vs = [.ref t] ∧ SqL K H t (ns.map V.int) ∧ ns.length ≤ 16500 ∧ (16384 < ns.length → ThrL a E) ∧
  (¬ 16384 < ns.length → Res (sheetM ns (ns.length + 1) 0) (fun xs => ∀ (H' : Hp) (l : Addr), ShAt a H' l xs → Same H H' → H l = none → Q (.ref l) H') (Thr a E 12))
def SInv (K : PySem.W.Frag) (a : Ad) (H : Hp) (r t : Addr) (ns : List Int) (l : Addr) (m : Nat) (σ : L2.St) (H' : Hp) : Prop :=
  ∃ (xs : List PM) (j : Nat), m = ns.length - j ∧ xs.length ≤ j ∧ σ = [some (.ref t), some (.ref r), some (.ref l)] ∧ Same H H' ∧ RdAt K a H' r t ns 12 j ∧ (∃ qs, H' l = some (.lst (qs.map V.ref)) ∧ PrsAll a r l H' qs xs) ∧
    sheetM ns (ns.length + 1) 0 = (sheetM ns (ns.length + 1 - xs.length) j).map fun y => xs ++ y
theorem sheetM_end {ns : List Int} {f : Nat} : sheetM ns (f + 1) ns.length = .ok [] := by
  show (if _ then _ else _) = _
  rw [if_pos rfl]
theorem sheetM_er {ns : List Int} {f k p : Nat} (h : k ≠ ns.length) (e : probM ns k = .error p) : sheetM ns (f + 1) k = .error p := by
  show (if _ then _ else _) = _
  rw [if_neg h, e]
theorem sheetM_go {ns : List Int} {f k k1 : Nat} {x : PM} (h : k ≠ ns.length) (e : probM ns k = .ok (x, k1)) : sheetM ns (f + 1) k = (sheetM ns f k1).map fun r => x :: r := by
  show (if _ then _ else _) = _
  rw [if_neg h, e]
section
variable {P : Program} {w : World} {K : PySem.W.Frag} {mg : Str → Option Value} {base : Heap} {a : Ad}
theorem sc_readSheet : FnScope ["text", "reader", "problems"] ["text"] (defScope s_readSheet) := ⟨rfl, rfl, rfl, by decide +kernel, rfl, by decide +kernel, by decide +kernel⟩
theorem ok_readSheet (T : Tx K mg a) : Good P w K mg base (CXE P w) 11 a.f_readSheet ["text"] (spShR K a) := by
  obtain ⟨fd, F, b⟩ := T.readSheet.ex
  obtain ⟨fd1, G1, b1, kp1⟩ := ok_initRd (P := P) (w := w) (base := base) T
  obtain ⟨fd2, G2, b2, kp2⟩ := ok_isDone (P := P) (w := w) (base := base) T
  obtain ⟨fd3, G3, b3, kp3⟩ := ok_readProblem (P := P) (w := w) (base := base) T
  obtain ⟨t1, hS⟩ := T.k_SHEET_RULE
  refine ⟨fd, F.okX sc_readSheet (fun vs H Q E h => ?_) (fun cdv A outer s H vs Q E hr h => ?_), b, F.kp⟩
  · obtain ⟨t, ns, rfl, _⟩ := h; rfl
  · obtain ⟨t, ns, rfl, hT, hlen, res⟩ := h
    refine ⟨_, pss_cons (ps_set (i := 1) sc_readSheet.nd rfl (Or.inl rfl) (pe_make T.pRd.mak G1 (hr.mono (by decide)) (by rfl) T.pRd.glo b1 .nil pass0 (pa_cons (pv 0) (pa_cons (pe_glob (v := .int 12) (by rfl) hS ⟨_, rfl⟩) pa_nil))))
      (pss_cons (ps_set (i := 2) sc_readSheet.nd rfl (Or.inl rfl) (pe_lst pa_nil))
      (pss_cons (ps_while ownX (pt_not (pt_val (pe_meth0 (pv 1) T.pRd.cl T.m_isDone G2 (hr.mono (by decide)) b2 .nil pass0)))
        (pss_one (ps_expr (pe_bm PySem.F.plainAttrs_list PySem.F.slot_list_append PySem.F.type_list_append mt_append (pv 2) (pa_cons (pe_call G3 (hr.mono (by decide)) (by rfl) T.g_readProblem kp3 b3 .nil passX (pa_cons (pv 1) pa_nil)) pa_nil)))))
      (pss_one (ps_ret (pv 2))))), ?_⟩
    refine ⟨_, rfl, ?_⟩
    intro r dr nr nd ne
    refine ⟨r, dr, t, 12, rfl, upd_same, fun H1 h1 k1 => ⟨rfl, ?_⟩⟩
    have s1 : Same H H1 := Same.made nr nd k1
    obtain ⟨dr1, hr1⟩ := h1
    have R1 : RdAt K a H1 r t ns 12 0 := ⟨⟨dr1, hr1⟩, s1.seq hT, Nat.zero_le _⟩
    refine ⟨Nat.zero_le _, fun l hl => ?_⟩
    have nlr : l ≠ r := Ne.symm (ne_of_none hr1 hl)
    have nl0 : H l = none := s1.free hl
    have dis := dis_of R1 hl
    have s2 : Same H1 (upd H1 l (.lst [])) := fun b o z => by rw [upd_ne (ne_of_none z hl)]; exact z
    refine ⟨SInv K a H r t ns l, ⟨_, [], 0, rfl, Nat.le_refl _, rfl, s1.trans s2, R1.same s2, ⟨[], upd_same, True.intro⟩, ?_⟩, ?_⟩
    · show sheetM ns (ns.length + 1) 0 = (sheetM ns (ns.length + 1) 0).map fun y => [] ++ y
      cases sheetM ns (ns.length + 1) 0 with
      | error p => rfl
      | ok x => rfl
    · rintro m σ H' ⟨xs, j, rfl, hxj, rfl, sm, R', ⟨qs, hl', P'⟩, e⟩
      obtain ⟨dr', hR'⟩ := R'.ins
      have hj := R'.le
      refine ⟨_, rfl, r, dr', _, rfl, hR', rf_no _ _ _ (by decide +kernel), r, t, ns, 12, j, rfl, R', _, rfl, ?_⟩
      by_cases c : j = ns.length
      · rw [decide_eq_true c]
        have ef : ns.length + 1 - xs.length = (ns.length - xs.length) + 1 := by omega
        rw [ef, c, sheetM_end] at e
        refine iteF ⟨_, rfl, ?_⟩
        have e2 : sheetM ns (ns.length + 1) 0 = .ok xs := by rw [e]; show Except.ok (xs ++ []) = _; rw [List.append_nil]
        exact res.ok_ e2 H' l ⟨r, qs, hl', P'⟩ sm nl0
      · rw [decide_eq_false c]
        refine iteT ⟨fun σ' H2 => ∃ m', m' < ns.length - j ∧ SInv K a H r t ns l m' σ' H2, fun _ _ y => y, ?_⟩
        have ef : ns.length + 1 - xs.length = (ns.length - xs.length) + 1 := by omega
        refine ⟨_, rfl, .inl ⟨rfl, _, SqL.of hl'⟩, _, rfl, r, t, ns, 12, j, rfl, R', ?_⟩
        cases hp : probM ns j with
        | error p => exact res.er_ (by rw [e, ef, sheetM_er c hp]; rfl)
        | ok y =>
          obtain ⟨x, j1⟩ := y
          have g := probM_gt hp
          dsimp only at g
          intro H3 q l' R3 nq nl' p3 kp3
          have hl3 := kp3 _ _ hl' nlr
          have nll : l' ≠ l := Ne.symm (ne_of_none hl' nl')
          have j1le := R3.le
          dsimp only at j1le
          have lq : qs.length = xs.length := P'.len
          refine ⟨l, _, _, rfl, rfl, hl3, ?_, ?_⟩
          · rw [List.length_map, lq]
            exact Nat.lt_of_le_of_lt (show xs.length ≤ 16500 by omega) (by decide)
          refine ⟨ns.length - j1, by omega, xs ++ [x], j1, rfl, by rw [List.length_append]; simp only [List.length_cons, List.length_nil]; omega, rfl, fun b o z => ?_, R3.offl dis hl3 (Keep.upd _ _ _), ⟨qs ++ [q], by rw [upd_same, List.map_append]; rfl, ?_⟩, ?_⟩
          · rw [upd_ne (ne_of_none z nl0)]
            refine kp3 _ _ (sm _ _ z) fun zr => ?_
            rw [zr, nr] at z
            cases z
          · refine PrsAll.snoc nll (p3.putl nll hl3 (Keep.upd _ _ _)) ?_
            exact P'.mono fun q l x n y => (y.keep kp3).putl n hl3 (Keep.upd _ _ _)
          · have el : ns.length + 1 - (xs ++ [x]).length = ns.length - xs.length := by rw [List.length_append]; simp only [List.length_cons, List.length_nil]; omega
            rw [e, ef, sheetM_go c hp, el]
            cases sheetM ns (ns.length - xs.length) j1 with
            | error p => rfl
            | ok y =>
              show Except.ok (xs ++ x :: y) = Except.ok ((xs ++ [x]) ++ y)
              rw [List.append_assoc]
              rfl
theorem sc_checkLength : FnScope ["text"] ["text"] (defScope s_checkLength) := ⟨rfl, rfl, rfl, by decide +kernel, rfl, by decide +kernel, by decide +kernel⟩
theorem ok_checkLength (T : Tx K mg a) : Good P w K mg base (CXE P w) 3 a.f_checkLength ["text"] (spChk K a) := by
  obtain ⟨fd, F, b⟩ := T.checkLength.ex
  obtain ⟨fd1, G1, b1, kp1⟩ := ok_initTL (P := P) (w := w) (base := base) T
  obtain ⟨t1, hS⟩ := T.k_MOST_BYTES
  obtain ⟨big, hbig⟩ : ∃ big : Int, big = 16384 := ⟨_, rfl⟩
  rw [← hbig] at hS
  refine ⟨fd, F.okX sc_checkLength (fun vs H Q E h => ?_) (fun cdv A outer s H vs Q E hr h => ?_), b, F.kp⟩
  · obtain ⟨t, ns, rfl, _⟩ := h; rfl
  · obtain ⟨t, ns, rfl, hT, q1, q2⟩ := h
    refine ⟨_, pss_one (ps_if (pt_cmpR op_gt (pe_callB call_len_seq (by rfl) T.b_len PySem.boot_len (pa_cons (pv 0) pa_nil)) (pe_glob (v := .int big) (by rfl) hS ⟨_, rfl⟩) (nomark _))
      (pss_one (ps_raise0 rfl fliesX T.xTL G1 (hr.mono (by decide)) (by rfl) T.gTL b1)) pss_nil), ?_⟩
    refine ⟨_, rfl, t, _, rfl, .inl hT, _, _, rfl, rfl, _, rfl, ?_⟩
    rw [List.length_map]
    by_cases c : 16384 < ns.length
    · rw [decide_eq_true (show big < ((ns.length : Nat) : Int) by omega)]
      exact iteT ⟨Nat.zero_le _, fun p hp => ⟨p, rfl, upd_same, fun H' dx l h1 h2 h3 h4 h5 => ⟨rfl, dx, h1, q2 c _ dx l (by rw [del_ne h2]; exact h4) (by rw [del_ne h3]; exact h5)⟩⟩⟩
    · rw [decide_eq_false (show ¬ big < ((ns.length : Nat) : Int) by omega)]
      exact iteF (q1 c)
end
end Ab

/-! The program's reading is the specification's: digits, numbers. -/
namespace Ab
open NaCt
def toB (ns : List Int) : Bytes := ns.map fun n => UInt8.ofNat n.toNat
def Okb (ns : List Int) : Prop := ∀ n ∈ ns, 0 ≤ n ∧ n ≤ 255
theorem u8_toNat {n : Nat} (h : n < 256) : (UInt8.ofNat n).toNat = n := by
  rw [UInt8.toNat_ofNat']
  exact Nat.mod_eq_of_lt h
theorem u8_eq {c : Nat} {d : UInt8} (h : c < 256) : UInt8.ofNat c = d ↔ c = d.toNat := by
  constructor
  · intro e; rw [← e, u8_toNat h]
  · intro e
    apply UInt8.toNat_inj.mp
    rw [u8_toNat h, e]
theorem drop_lt {ns : List Int} (hb : Okb ns) {k : Nat} (h : k < ns.length) : ∃ c : UInt8, (toB ns).drop k = c :: (toB ns).drop (k + 1) ∧ pk ns k = (c.toNat : Int) := by
  have hm := hb ns[k] (List.getElem_mem h)
  refine ⟨UInt8.ofNat (ns[k]).toNat, ?_, ?_⟩
  · have hl : k < (toB ns).length := by unfold toB; rw [List.length_map]; exact h
    rw [List.drop_eq_getElem_cons hl]
    congr 1
    simp [toB]
  · unfold pk
    rw [List.getElem?_eq_getElem h, u8_toNat (by omega)]
    show ns[k] = _
    omega
theorem drop_ge {ns : List Int} {k : Nat} (h : ¬ k < ns.length) : (toB ns).drop k = [] ∧ pk ns k = -1 := by
  constructor
  · rw [List.drop_eq_nil_iff]
    unfold toB
    rw [List.length_map]
    omega
  · unfold pk
    rw [List.getElem?_eq_none (by omega)]
    rfl
theorem pd_dig {ns : List Int} {k : Nat} {c : UInt8} (h : pk ns k = (c.toNat : Int)) : (isDigit c = true ∧ pd ns k = ((c.toNat - 48 : Nat) : Int) ∧ c.toNat - 48 ≤ 9) ∨ (isDigit c = false ∧ pd ns k = -1) := by
  unfold isDigit pd
  rw [h]
  by_cases h1 : 48 ≤ c.toNat
  · by_cases h2 : c.toNat ≤ 57
    · left
      rw [if_pos (by omega)]
      refine ⟨by simp [h1, h2], by omega, by omega⟩
    · right
      rw [if_neg (by omega)]
      exact ⟨by simp [h2], rfl⟩
  · right
    rw [if_neg (by omega)]
    exact ⟨by simp [h1], rfl⟩
theorem pd_nil {ns : List Int} {k : Nat} (h : ¬ k < ns.length) : pd ns k = -1 := by
  unfold pd
  rw [(drop_ge h).2]
  rfl
/-- the specification's reading s and the program's m go alike -/
inductive Sim {α β : Type} (B : Bytes) (g : α → β) : Except Nat (α × (Nat × Bytes)) → Except Nat (β × Nat) → Prop
  | er (p : Nat) : Sim B g (.error p) (.error p)
  | ok (x : α) (k : Nat) : Sim B g (.ok (x, k, B.drop k)) (.ok (g x, k))
theorem Sim.out {α β : Type} {B : Bytes} {g : α → β} {s : Except Nat (α × (Nat × Bytes))} {m : Except Nat (β × Nat)} (h : Sim B g s m) : (∃ p, s = .error p ∧ m = .error p) ∨ ∃ x k, s = .ok (x, k, B.drop k) ∧ m = .ok (g x, k) := by
  cases h with
  | er p => exact .inl ⟨p, rfl, rfl⟩
  | ok x k => exact .inr ⟨x, k, rfl, rfl⟩
theorem expect_sim {ns : List Int} (hb : Okb ns) : ∀ (cs : List Nat) (k : Nat), (∀ c ∈ cs, c < 256) → Sim (toB ns) (fun _ => ()) (expect (cs.map UInt8.ofNat) k ((toB ns).drop k)) ((exW ns cs k).map fun k' => ((), k'))
  | [], k, _ => .ok () k
  | c :: cs, k, hc => by
    have hc0 := hc c (by simp)
    by_cases h : k < ns.length
    · obtain ⟨d, e1, e2⟩ := drop_lt hb h
      rw [List.map_cons, e1]
      unfold expect exW
      dsimp only
      by_cases z : c = d.toNat
      · rw [if_pos ((u8_eq hc0).mpr z), if_pos (by rw [e2, z])]
        exact expect_sim hb cs (k + 1) fun c' m => hc c' (List.mem_cons_of_mem _ m)
      · rw [if_neg fun y => z ((u8_eq hc0).mp y), if_neg (by rw [e2]; omega)]
        exact .er k
    · obtain ⟨e1, e2⟩ := drop_ge h
      rw [List.map_cons, e1]
      unfold expect exW
      dsimp only
      rw [if_neg (by rw [e2]; omega)]
      exact .er k
/-! numbers of a few digits -/
theorem leads_eq {lo hi n : Nat} (hh : hi < 10 ^ 6) : leadsTo lo hi n = ldB lo hi n := by
  unfold leadsTo ldB
  by_cases h : n = 0
  · rw [if_pos h, if_pos h]
  · rw [if_neg h, if_neg h]
    rw [Bool.eq_iff_iff, List.any_eq_true, List.any_eq_true]
    constructor
    · rintro ⟨k, hk, q⟩
      exact ⟨k, List.mem_range.mpr (by have := List.mem_range.mp hk; omega), q⟩
    · rintro ⟨k, _, q⟩
      refine ⟨k, List.mem_range.mpr ?_, q⟩
      simp only [Bool.and_eq_true, decide_eq_true_eq] at q
      rcases Nat.lt_or_ge k 6 with z | z
      · exact z
      · have h1 : 10 ^ 6 ≤ 10 ^ k := Nat.pow_le_pow_right (by decide) z
        have h2 : 1 * 10 ^ k ≤ n * 10 ^ k := Nat.mul_le_mul_right _ (by omega)
        omega
theorem ldB_le {lo hi n : Nat} (h : ldB lo hi n = true) : n ≤ hi := by
  unfold ldB at h
  split at h
  · omega
  · obtain ⟨i, _, q⟩ := List.any_eq_true.mp h
    simp only [Bool.and_eq_true, decide_eq_true_eq] at q
    have : n * 1 ≤ n * 10 ^ i := Nat.mul_le_mul_left _ (Nat.pow_pos (by decide))
    omega
def fin (lo st : Nat) (x : Nat × Nat) : Except Nat (Nat × Nat) := if x.2 = st ∨ x.1 < lo then .error x.2 else .ok x
theorem num_stop {ns : List Int} {lo hi st v d : Nat} (vo : Option Nat) (b : Bytes) (hB : b = (toB ns).drop (st + d)) (hv : v ≤ hi) (h0 : d = 0 → vo = none ∧ v = 0) (h1 : 0 < d → vo = some v) :
    Sim (toB ns) id (match vo with | some n => if lo ≤ n ∧ n ≤ hi then .ok (n, st + d, b) else .error (st + d) | none => .error (st + d)) (fin lo st (v, st + d)) := by
  subst hB
  rcases Nat.eq_zero_or_pos d with hd0 | hd0
  · obtain ⟨rfl, rfl⟩ := h0 hd0
    subst hd0
    unfold fin
    rw [if_pos (.inl rfl)]
    exact .er _
  · have := h1 hd0
    subst this
    dsimp only
    unfold fin
    dsimp only
    by_cases c : lo ≤ v ∧ v ≤ hi
    · rw [if_pos c, if_neg (by omega)]
      exact .ok v _
    · rw [if_neg c, if_pos (.inr (by omega))]
      exact .er _
theorem num_sim {ns : List Int} (hb : Okb ns) {lo hi st : Nat} (hh : hi < 10 ^ 6) : ∀ (g f v d : Nat) (vo : Option Nat), g = ns.length - (st + d) → f + d = 8 → d ≤ 6 → v ≤ hi → (d = 0 → vo = none ∧ v = 0) → (0 < d → vo = some v ∧ (v ≠ 0 → 10 ^ (d - 1) ≤ v)) →
    Sim (toB ns) id (numFrom lo hi f vo (st + d) ((toB ns).drop (st + d))) (fin lo st (rbl ns lo hi st g v (st + d))) := by
  intro g
  induction g with
  | zero =>
    intro f v d vo hg hf hd hv h0 h1
    obtain ⟨f, rfl⟩ : ∃ f', f = f' + 1 := ⟨f - 1, by omega⟩
    obtain ⟨e1, e2⟩ := drop_ge (ns := ns) (k := st + d) (by omega)
    have key := num_stop (ns := ns) (lo := lo) (hi := hi) (st := st) (v := v) (d := d) vo ((toB ns).drop (st + d)) rfl hv h0 fun z => (h1 z).1
    rw [e1] at key ⊢
    unfold numFrom
    exact key
  | succ g ih =>
    intro f v d vo hg hf hd hv h0 h1
    obtain ⟨f, rfl⟩ : ∃ f', f = f' + 1 := ⟨f - 1, by omega⟩
    obtain ⟨c, e1, e2⟩ := drop_lt hb (k := st + d) (by omega)
    have key := num_stop (ns := ns) (lo := lo) (hi := hi) (st := st) (v := v) (d := d) vo ((toB ns).drop (st + d)) rfl hv h0 fun z => (h1 z).1
    have stp : ¬ (0 ≤ pd ns (st + d) ∧ (st + d = st ∨ 0 < v) ∧ ldB lo hi (v * 10 + (pd ns (st + d)).toNat) = true) → rbl ns lo hi st (g + 1) v (st + d) = (v, st + d) := fun hc => by
      unfold rbl; rw [if_neg hc]
    rw [e1] at key ⊢
    unfold numFrom
    dsimp only
    rcases pd_dig e2 with ⟨hdig, hpd, h9⟩ | ⟨hdig, hpd⟩
    · have hn : (pd ns (st + d)).toNat = c.toNat - 48 := by rw [hpd]; rfl
      by_cases hz : vo = some 0
      · rw [if_pos (.inr hz), stp ?_]
        · exact key
        rcases Nat.eq_zero_or_pos d with hd0 | hd0
        · obtain ⟨r, _⟩ := h0 hd0
          rw [r] at hz; cases hz
        · obtain ⟨r, _⟩ := h1 hd0
          rw [r] at hz
          cases hz
          omega
      · rw [if_neg (by rw [hdig]; simp [hz])]
        have hv0 : vo.getD 0 = v := by
          rcases Nat.eq_zero_or_pos d with hd0 | hd0
          · obtain ⟨r, r2⟩ := h0 hd0; rw [r, r2]; rfl
          · obtain ⟨r, _⟩ := h1 hd0; rw [r]; rfl
        rw [hv0]
        have en : 10 * v + (c.toNat - 48) = v * 10 + (pd ns (st + d)).toNat := by rw [hn]; omega
        rw [en, leads_eq hh]
        cases hl : ldB lo hi (v * 10 + (pd ns (st + d)).toNat) with
        | false =>
          rw [if_neg (by decide), stp ?_]
          · exact key
          rw [hl]
          intro y
          cases y.2.2
        | true =>
          rw [if_pos rfl]
          dsimp only
          have cond : 0 ≤ pd ns (st + d) ∧ (st + d = st ∨ 0 < v) ∧ ldB lo hi (v * 10 + (pd ns (st + d)).toNat) = true := by
            refine ⟨by rw [hpd]; omega, ?_, hl⟩
            rcases Nat.eq_zero_or_pos d with hd0 | hd0
            · exact .inl (by omega)
            · obtain ⟨r, _⟩ := h1 hd0
              refine .inr (Nat.pos_of_ne_zero fun z => hz ?_)
              rw [r, z]
          have er : rbl ns lo hi st (g + 1) v (st + d) = rbl ns lo hi st g (v * 10 + (pd ns (st + d)).toNat) (st + d + 1) := by
            show (if _ then _ else _) = _
            rw [if_pos cond]
          rw [er]
          have nle := ldB_le hl
          have grow : v * 10 + (pd ns (st + d)).toNat ≠ 0 → 10 ^ d ≤ v * 10 + (pd ns (st + d)).toNat := by
            intro nz
            rcases Nat.eq_zero_or_pos d with hd0 | hd0
            · have e0 : 10 ^ d = 1 := by rw [hd0]
              omega
            · obtain ⟨_, r⟩ := h1 hd0
              have hv1 : v ≠ 0 := by
                rcases cond.2.1 with y | y
                · omega
                · omega
              have := r hv1
              have ep : 10 ^ d = 10 ^ (d - 1) * 10 := by
                obtain ⟨d', rfl⟩ : ∃ d', d = d' + 1 := ⟨d - 1, by omega⟩
                rw [Nat.pow_succ]; rfl
              omega
          have d6 : d + 1 ≤ 6 := by
            rcases Nat.eq_zero_or_pos d with hd0 | hd0
            · omega
            · obtain ⟨_, r⟩ := h1 hd0
              have hv1 : 0 < v := by
                rcases cond.2.1 with y | y
                · omega
                · exact y
              have g1 := grow (by omega)
              rcases Nat.lt_or_ge d 6 with z | z
              · omega
              · have : 10 ^ 6 ≤ 10 ^ d := Nat.pow_le_pow_right (by decide) z
                omega
          exact ih f _ (d + 1) (some _) (by omega) (by omega) d6 nle (fun z => by omega) fun _ => ⟨rfl, fun nz => grow nz⟩
    · rw [if_pos (.inl hdig), stp ?_]
      · exact key
      rw [hpd]
      intro y
      exact absurd y.1 (by decide)
theorem rb_fin (ns : List Int) (lo hi k : Nat) : rb ns lo hi k = fin lo k (rbl ns lo hi k (ns.length - k) 0 k) := rfl
theorem numAt_sim {ns : List Int} (hb : Okb ns) {lo hi : Nat} (hh : hi < 10 ^ 6) (k : Nat) : Sim (toB ns) id (numAt lo hi k ((toB ns).drop k)) (rb ns lo hi k) := by
  unfold numAt
  rw [rb_fin]
  exact num_sim hb hh (ns.length - k) 8 0 0 none rfl rfl (by decide) (Nat.zero_le _) (fun _ => ⟨rfl, rfl⟩) fun z => absurd z (by decide)
end Ab

/-! The program's reading is the specification's: wholes, decimals. -/
namespace Ab
open NaCt
theorem ldB_most {lo n D hi : Nat} (eh : hi + 1 = 10 ^ D) (hl : lo ≤ 1) (hn : 0 < n) : ldB lo hi n = decide (n < 10 ^ D) := by
  unfold ldB
  rw [if_neg (by omega)]
  by_cases h : n < 10 ^ D
  · rw [decide_eq_true h, List.any_eq_true]
    refine ⟨0, List.mem_range.mpr (by decide), ?_⟩
    simp only [Bool.and_eq_true, decide_eq_true_eq]
    omega
  · rw [decide_eq_false h, List.any_eq_false]
    intro i _
    simp only [Bool.and_eq_true, decide_eq_true_eq, not_and]
    intro q
    have : n * 1 ≤ n * 10 ^ i := Nat.mul_le_mul_left _ (Nat.pow_pos (by decide))
    omega
/-- from the second digit on -/
theorem digs {ns : List Int} (hb : Okb ns) {lo st D hi : Nat} (eh : hi + 1 = 10 ^ D) (hl : lo ≤ 1) : ∀ (g v d c k : Nat), g = ns.length - k → 0 < d → d ≤ D → 10 ^ (d - 1) ≤ v → v < 10 ^ d → st < k →
    ∃ v' k', rbl ns lo hi st g v k = (v', k') ∧ (∃ c', digitsAt (D - d) v c k ((toB ns).drop k) = ((v', c'), k', (toB ns).drop k')) ∧ 0 < v' ∧ st < k' := by
  intro g
  induction g with
  | zero =>
    intro v d c k hg hd hd2 h1 h2 hk
    refine ⟨v, k, rfl, ⟨c, ?_⟩, Nat.lt_of_lt_of_le (Nat.pow_pos (by decide)) h1, hk⟩
    have e := (drop_ge (ns := ns) (k := k) (by omega)).1
    cases h : D - d with
    | zero => rfl
    | succ f =>
      unfold digitsAt
      rw [e]
  | succ g ih =>
    intro v d c k hg hd hd2 h1 h2 hk
    have hv : 0 < v := Nat.lt_of_lt_of_le (Nat.pow_pos (by decide)) h1
    obtain ⟨x, e1, e2⟩ := drop_lt hb (k := k) (by omega)
    have ep : 10 ^ d = 10 ^ (d - 1) * 10 := by
      obtain ⟨d', rfl⟩ : ∃ d', d = d' + 1 := ⟨d - 1, by omega⟩
      rw [Nat.pow_succ]; rfl
    rcases pd_dig e2 with ⟨hdig, hpd, h9⟩ | ⟨hdig, hpd⟩
    · have hn : (pd ns k).toNat = x.toNat - 48 := by rw [hpd]; rfl
      have hm := ldB_most (n := v * 10 + (pd ns k).toNat) eh hl (by omega)
      rcases Nat.lt_or_ge d D with z | z
      · have hlt : v * 10 + (pd ns k).toNat < 10 ^ (d + 1) := by rw [Nat.pow_succ]; omega
        have hle : 10 ^ (d + 1) ≤ 10 ^ D := Nat.pow_le_pow_right (by decide) (by omega)
        rw [decide_eq_true (by omega)] at hm
        have er : rbl ns lo hi st (g + 1) v k = rbl ns lo hi st g (v * 10 + (pd ns k).toNat) (k + 1) := by
          show (if _ then _ else _) = _
          rw [if_pos ⟨by rw [hpd]; omega, .inr hv, hm⟩]
        obtain ⟨v', k', r1, ⟨c', r2⟩, r3, r4⟩ := ih (v * 10 + (pd ns k).toNat) (d + 1) (c + 1) (k + 1) (by omega) (by omega) (by omega) (by show 10 ^ d ≤ _; omega) hlt (by omega)
        refine ⟨v', k', er.trans r1, ⟨c', ?_⟩, r3, r4⟩
        have ef : D - d = (D - (d + 1)) + 1 := by omega
        rw [ef, e1]
        unfold digitsAt
        dsimp only
        rw [if_pos hdig]
        have en : 10 * v + (x.toNat - 48) = v * 10 + (pd ns k).toNat := by rw [hn]; omega
        rw [en]
        exact r2
      · have d18 : d = D := by omega
        subst d18
        rw [decide_eq_false (by omega)] at hm
        refine ⟨v, k, ?_, ⟨c, by rw [Nat.sub_self]; rfl⟩, hv, hk⟩
        unfold rbl
        rw [if_neg fun y => by rw [hm] at y; cases y.2.2]
    · refine ⟨v, k, ?_, ⟨c, ?_⟩, hv, hk⟩
      · unfold rbl
        rw [if_neg fun y => by rw [hpd] at y; exact absurd y.1 (by decide)]
      · cases h : D - d with
        | zero => rfl
        | succ f =>
          rw [e1]
          unfold digitsAt
          dsimp only
          rw [if_neg (by rw [hdig]; decide)]
theorem whole_simD {ns : List Int} (hb : Okb ns) {lo D hi : Nat} (eh : hi + 1 = 10 ^ D) (hD : 0 < D) (hl : lo ≤ 1) (k : Nat) (h48 : lo = 0 ∨ pk ns k ≠ 48) : Sim (toB ns) id (wholeAt D k ((toB ns).drop k)) (rb ns lo hi k) := by
  rw [rb_fin]
  by_cases h : k < ns.length
  · obtain ⟨x, e1, e2⟩ := drop_lt hb h
    obtain ⟨g, hg⟩ : ∃ g, ns.length - k = g + 1 := ⟨ns.length - k - 1, by omega⟩
    rw [e1, hg]
    unfold wholeAt
    dsimp only
    by_cases hx : x = 48
    · rw [if_pos hx]
      have hk0 : pk ns k = 48 := by rw [e2, hx]; rfl
      have l0 : lo = 0 := h48.resolve_right fun y => y hk0
      subst l0
      have hp : pd ns k = 0 := by unfold pd; rw [hk0]; rfl
      have er : rbl ns 0 hi k (g + 1) 0 k = (0, k + 1) := by
        show (if _ then _ else _) = _
        rw [if_pos ⟨by rw [hp]; decide, .inl rfl, by rw [hp]; rfl⟩, hp]
        show rbl ns 0 hi k g 0 (k + 1) = _
        cases g with
        | zero => rfl
        | succ g =>
          show (if _ then _ else _) = _
          rw [if_neg (by omega)]
      rw [er]
      unfold fin
      rw [if_neg (by dsimp only; omega)]
      exact .ok 0 (k + 1)
    · rw [if_neg hx]
      rcases pd_dig e2 with ⟨hdig, hpd, h9⟩ | ⟨hdig, hpd⟩
      · rw [if_pos hdig]
        have hn : (pd ns k).toNat = x.toNat - 48 := by rw [hpd]; rfl
        have hpos : 0 < x.toNat - 48 := by
          have h48' : 48 ≤ x.toNat := by
            unfold isDigit at hdig
            simp only [Bool.and_eq_true, decide_eq_true_eq] at hdig
            exact hdig.1
          have : x.toNat ≠ 48 := fun y => hx (by
            apply UInt8.toNat_inj.mp
            rw [y]; rfl)
          omega
        have hm := ldB_most (lo := lo) eh (n := 0 * 10 + (pd ns k).toNat) hl (by omega)
        have ten : 10 ^ 1 ≤ 10 ^ D := Nat.pow_le_pow_right (by decide) hD
        rw [decide_eq_true (by omega)] at hm
        have er : rbl ns lo hi k (g + 1) 0 k = rbl ns lo hi k g (x.toNat - 48) (k + 1) := by
          show (if _ then _ else _) = _
          rw [if_pos ⟨by rw [hpd]; omega, .inl rfl, hm⟩, hn]
          rw [Nat.zero_mul, Nat.zero_add]
        obtain ⟨v', k', r1, ⟨c', r2⟩, r3, r4⟩ := digs hb eh hl g (x.toNat - 48) 1 1 (k + 1) (by omega) (by decide) hD (by show 1 ≤ _; omega) (by show _ < 10; omega) (Nat.lt_succ_self k)
        rw [er, r1]
        have r2' : digitsAt (D - 1) (x.toNat - 48) 1 (k + 1) ((toB ns).drop (k + 1)) = ((v', c'), k', (toB ns).drop k') := r2
        rw [r2']
        unfold fin
        rw [if_neg (by dsimp only; omega)]
        exact .ok v' k'
      · rw [if_neg (by rw [hdig]; decide)]
        have er : rbl ns lo hi k (g + 1) 0 k = (0, k) := by
          show (if _ then _ else _) = _
          rw [if_neg fun y => by rw [hpd] at y; exact absurd y.1 (by decide)]
        rw [er]
        unfold fin
        rw [if_pos (.inl rfl)]
        exact .er k
  · obtain ⟨e1, e2⟩ := drop_ge (ns := ns) h
    have hg : ns.length - k = 0 := by omega
    rw [e1, hg]
    unfold wholeAt fin
    dsimp only
    rw [if_pos (.inl rfl)]
    exact .er k
theorem whole_sim {ns : List Int} (hb : Okb ns) {lo : Nat} (hl : lo ≤ 1) (k : Nat) (h48 : lo = 0 ∨ pk ns k ≠ 48) : Sim (toB ns) id (wholeAt BEFORE k ((toB ns).drop k)) (rb ns lo MOST k) := whole_simD hb (D := BEFORE) (hi := MOST) (by decide) (by decide) hl k h48
/-- where a nought comes first and mayn't -/
theorem rb1_nought {ns : List Int} {k : Nat} (h : pk ns k = 48) : rb ns 1 MOST k = .error k := by
  have hp : pd ns k = 0 := by unfold pd; rw [h]; rfl
  rw [rb_fin]
  have er : ∀ g, rbl ns 1 MOST k g 0 k = (0, k) := fun g => by
    cases g with
    | zero => rfl
    | succ g =>
      show (if _ then _ else _) = _
      rw [if_neg fun y => by rw [hp] at y; exact absurd y.2.2 (by decide)]
  rw [er]
  unfold fin
  rw [if_pos (.inl rfl)]
theorem Sim.map {α β γ δ : Type} {B : Bytes} {g : α → β} {g' : γ → δ} {s : Except Nat (α × (Nat × Bytes))} {m : Except Nat (β × Nat)} (f : α → γ) (f' : β → δ) (h : Sim B g s m) (e : ∀ x, g' (f x) = f' (g x)) : Sim B g' (s.map fun x => (f x.1, x.2)) (m.map fun y => (f' y.1, y.2)) := by
  cases h with
  | er p => exact .er p
  | ok x k =>
    show Sim B g' (.ok (f x, k, B.drop k)) (.ok (f' (g x), k))
    rw [← e x]
    exact .ok (f x) k
theorem row_sim {ns : List Int} (hb : Okb ns) (k : Nat) : Sim (toB ns) id (rowAt k ((toB ns).drop k)) (rowM ns k) := by
  unfold rowM
  by_cases h : k < ns.length
  · obtain ⟨x, e1, e2⟩ := drop_lt hb h
    by_cases hx : x = 45
    · subst hx
      rw [if_pos (by rw [e2]; rfl), e1]
      have er : ∀ l : Bytes, rowAt k (45 :: l) = if l.head? = some 48 then .error (k + 1) else (wholeAt BEFORE (k + 1) l).map fun (x : Nat × (Nat × Bytes)) => (-(x.1 : Int), x.2) := fun _ => rfl
      rw [er]
      by_cases hz : pk ns (k + 1) = 48
      · have hh : ((toB ns).drop (k + 1)).head? = some 48 := by
          by_cases h2 : k + 1 < ns.length
          · obtain ⟨y, f1, f2⟩ := drop_lt hb h2
            rw [f1]
            show some y = some 48
            congr 1
            apply UInt8.toNat_inj.mp
            rw [f2] at hz
            show y.toNat = 48
            omega
          · rw [(drop_ge h2).2] at hz
            exact absurd hz (by decide)
        rw [if_pos hh, rb1_nought hz]
        exact .er _
      · have hh : ¬ ((toB ns).drop (k + 1)).head? = some 48 := fun y => by
          by_cases h2 : k + 1 < ns.length
          · obtain ⟨z, f1, f2⟩ := drop_lt hb h2
            rw [f1] at y
            have y' : some z = some (48 : UInt8) := y
            injection y' with y'
            rw [y'] at f2
            exact hz (by rw [f2]; rfl)
          · rw [(drop_ge h2).1] at y
            cases y
        rw [if_neg hh]
        exact (whole_sim hb (by decide) (k + 1) (.inr hz)).map (fun n : Nat => -(n : Int)) (fun n : Nat => -(n : Int)) fun _ => rfl
    · have hx' : ¬ pk ns k = 45 := fun y => hx (by
        apply UInt8.toNat_inj.mp
        rw [e2] at y
        show x.toNat = 45
        omega)
      rw [if_neg hx']
      have er : rowAt k ((toB ns).drop k) = (wholeAt BEFORE k ((toB ns).drop k)).map fun (x : Nat × (Nat × Bytes)) => ((x.1 : Int), x.2) := by
        rw [e1]
        unfold rowAt
        split
        · rename_i l heq
          injection heq with h1 h2
          exact absurd h1 hx
        · rfl
      rw [er]
      exact (whole_sim hb (by decide) k (.inl rfl)).map (fun n : Nat => (n : Int)) (fun n : Nat => (n : Int)) fun _ => rfl
  · obtain ⟨e1, e2⟩ := drop_ge (ns := ns) h
    rw [if_neg (by rw [e2]; decide)]
    have er : rowAt k ((toB ns).drop k) = (wholeAt BEFORE k ((toB ns).drop k)).map fun (x : Nat × (Nat × Bytes)) => ((x.1 : Int), x.2) := by
      rw [e1]
      rfl
    rw [er]
    exact (whole_sim hb (by decide) k (.inl rfl)).map (fun n : Nat => (n : Int)) (fun n : Nat => (n : Int)) fun _ => rfl
end Ab

/-! Decimals. -/
namespace Ab
open NaCt
abbrev dg (s x : Nat) : Nat := s * 10 + x
def decOf (d : Dec) : Int × Nat := (signed d.neg (d.tail.foldl dg d.whole), d.tail.length)
theorem c48 {c : UInt8} (h : isDigit c = true) : c = 48 ↔ c.toNat - 48 = 0 := by
  unfold isDigit at h
  simp only [Bool.and_eq_true, decide_eq_true_eq] at h
  constructor
  · intro e; rw [e]; rfl
  · intro e
    apply UInt8.toNat_inj.mp
    show c.toNat = 48
    omega
theorem tail_sim {ns : List Int} (hb : Okb ns) (nn : Bool) : ∀ (f u m k : Nat) (l : List Nat), l.length = m → (f = 0 → 0 < m ∧ ¬ (nn = true ∧ u = 0)) →
    ∃ l', (tlM ns nn f u m k).1 = l'.foldl dg u ∧ (tlM ns nn f u m k).2.1 = m + l'.length ∧
      tailAt (nn && decide (u = 0)) f l k ((toB ns).drop k) = (if (tlM ns nn f u m k).2.1 = 0 ∨ (nn = true ∧ (tlM ns nn f u m k).1 = 0) then .error (tlM ns nn f u m k).2.2 else .ok (l ++ l', (tlM ns nn f u m k).2.2, (toB ns).drop (tlM ns nn f u m k).2.2)) := by
  intro f
  induction f with
  | zero =>
    intro u m k l hl h0
    obtain ⟨h1, h2⟩ := h0 rfl
    refine ⟨[], rfl, rfl, ?_⟩
    show tailAt _ 0 l k _ = (if m = 0 ∨ (nn = true ∧ u = 0) then _ else .ok (l ++ [], k, _))
    rw [if_neg (fun y => y.elim (fun z => by omega) h2), List.append_nil]
    rfl
  | succ f ih =>
    intro u m k l hl h0
    have zeq : (nn && decide (u = 0)) = true ↔ (nn = true ∧ u = 0) := by simp
    have stop : ∀ hs : tlM ns nn (f + 1) u m k = (u, m, k), ∀ b, b = (toB ns).drop k → tailAt (nn && decide (u = 0)) (f + 1) l k b = (if l = [] ∨ (nn && decide (u = 0)) = true then .error k else .ok (l, k, b)) →
        ∃ l', (tlM ns nn (f + 1) u m k).1 = l'.foldl dg u ∧ (tlM ns nn (f + 1) u m k).2.1 = m + l'.length ∧
      tailAt (nn && decide (u = 0)) (f + 1) l k b = (if (tlM ns nn (f + 1) u m k).2.1 = 0 ∨ (nn = true ∧ (tlM ns nn (f + 1) u m k).1 = 0) then .error (tlM ns nn (f + 1) u m k).2.2 else .ok (l ++ l', (tlM ns nn (f + 1) u m k).2.2, (toB ns).drop (tlM ns nn (f + 1) u m k).2.2)) := by
      intro hs b hB ht
      rw [hs]
      refine ⟨[], rfl, rfl, ?_⟩
      rw [ht]
      dsimp only
      have hlm : l = [] ↔ m = 0 := by rw [← hl]; exact List.length_eq_zero_iff.symm
      by_cases c : m = 0 ∨ (nn = true ∧ u = 0)
      · rw [if_pos c, if_pos (c.elim (fun z => .inl (hlm.mpr z)) fun z => .inr (zeq.mpr z))]
      · rw [if_neg c, if_neg fun y => c (y.elim (fun z => .inl (hlm.mp z)) fun z => .inr (zeq.mp z)), List.append_nil, hB]
    by_cases h : k < ns.length
    · obtain ⟨c, e1, e2⟩ := drop_lt hb h
      rcases pd_dig e2 with ⟨hdig, hpd, h9⟩ | ⟨hdig, hpd⟩
      · have hn : (pd ns k).toNat = c.toNat - 48 := by rw [hpd]; rfl
        have ht : tailAt (nn && decide (u = 0)) (f + 1) l k ((toB ns).drop k) = (if c = 48 ∧ (nn && decide (u = 0)) = true ∧ f = 0 then .error k else tailAt ((nn && decide (u = 0)) && c == 48) f (l ++ [c.toNat - 48]) (k + 1) ((toB ns).drop (k + 1))) := by
          rw [e1]
          show (if isDigit c = true then _ else _) = _
          rw [if_pos hdig]
        by_cases cs : nn = true ∧ u * 10 + (pd ns k).toNat = 0 ∧ f = 0
        · have hs : tlM ns nn (f + 1) u m k = (u, m, k) := by
            show (if _ then _ else _) = _
            rw [if_neg fun y => y.2 cs]
          rw [hs]
          refine ⟨[], rfl, rfl, ?_⟩
          rw [ht]
          dsimp only
          rw [if_pos ⟨(c48 hdig).mpr (by omega), zeq.mpr ⟨cs.1, by omega⟩, cs.2.2⟩, if_pos (.inr ⟨cs.1, by omega⟩)]
        · have hs : tlM ns nn (f + 1) u m k = tlM ns nn f (u * 10 + (pd ns k).toNat) (m + 1) (k + 1) := by
            show (if _ then _ else _) = _
            rw [if_pos ⟨by rw [hpd]; omega, cs⟩]
          rw [hs]
          have hz : ((nn && decide (u = 0)) && c == 48) = (nn && decide (u * 10 + (pd ns k).toNat = 0)) := by
            have hc : (c == 48) = decide (c.toNat - 48 = 0) := by
              rw [Bool.eq_iff_iff, beq_iff_eq, decide_eq_true_eq]
              exact c48 hdig
            rw [hc, Bool.and_assoc]
            congr 1
            rw [Bool.eq_iff_iff, Bool.and_eq_true, decide_eq_true_eq, decide_eq_true_eq, decide_eq_true_eq]
            omega
          obtain ⟨l', r1, r2, r3⟩ := ih (u * 10 + (pd ns k).toNat) (m + 1) (k + 1) (l ++ [c.toNat - 48]) (by rw [List.length_append, hl]; rfl) fun z => ⟨Nat.succ_pos m, fun y => cs ⟨y.1, y.2, z⟩⟩
          refine ⟨(c.toNat - 48) :: l', ?_, ?_, ?_⟩
          · rw [r1, List.foldl_cons, hn]
          · rw [r2, List.length_cons]; omega
          · rw [ht, if_neg fun y => cs ⟨(zeq.mp y.2.1).1, by have := (zeq.mp y.2.1).2; have := (c48 hdig).mp y.1; omega, y.2.2⟩, hz, r3, List.append_assoc]
            rfl
      · refine stop ?_ _ rfl ?_
        · show (if _ then _ else _) = _
          rw [if_neg fun y => by rw [hpd] at y; exact absurd y.1 (by decide)]
        · rw [e1]
          show (if isDigit c = true then _ else _) = _
          rw [if_neg (by rw [hdig]; decide)]
    · obtain ⟨e1, e2⟩ := drop_ge (ns := ns) h
      refine stop ?_ _ rfl ?_
      · show (if _ then _ else _) = _
        rw [if_neg fun y => by rw [pd_nil h] at y; exact absurd y.1 (by decide)]
      · rw [e1]
        rfl
/-- a decimal behind its sign -/
def bareG (ns : List Int) (most : Nat) (bel nn : Bool) (k : Nat) : Except Nat (Int × Nat × Nat) := match rb ns 0 most k with
  | .error p => .error p
  | .ok (v, k2) =>
    if pk ns k2 = 46 then
      match tailM ns nn v (k2 + 1) with
      | .error p => .error p
      | .ok (u, m, k3) => if nn = true ∧ u = 0 then .error k3 else .ok (signed bel u, m, k3)
    else if nn = true ∧ v = 0 then .error k2 else .ok (signed bel v, 0, k2)
theorem decM_bare (ns : List Int) (most : Nat) (b s : Bool) (k : Nat) : decG ns most b s k = bareG ns most (b && decide (pk ns k = 45)) ((b && decide (pk ns k = 45)) || s) (if (b && decide (pk ns k = 45)) = true then k + 1 else k) := by
  unfold decG bareG
  dsimp only
  all_goals (cases rb ns 0 most (if (b && decide (pk ns k = 45)) = true then k + 1 else k) <;> rfl)
def Like (B : Bytes) (s : Except Nat (Dec × (Nat × Bytes))) (m : Except Nat (Int × Nat × Nat)) : Prop := (∃ p, s = .error p ∧ m = .error p) ∨ ∃ d k, s = .ok (d, k, B.drop k) ∧ m = .ok ((decOf d).1, (decOf d).2, k)
theorem at46 {ns : List Int} (hb : Okb ns) (k : Nat) : (pk ns k = 46 ∧ (toB ns).drop k = 46 :: (toB ns).drop (k + 1)) ∨ (pk ns k ≠ 46 ∧ ∀ l, (toB ns).drop k ≠ 46 :: l) := by
  by_cases h : k < ns.length
  · obtain ⟨c, e1, e2⟩ := drop_lt hb h
    by_cases hc : c = 46
    · subst hc
      exact .inl ⟨by rw [e2]; rfl, e1⟩
    · refine .inr ⟨fun y => hc ?_, fun l y => ?_⟩
      · apply UInt8.toNat_inj.mp
        rw [e2] at y
        show c.toNat = 46
        omega
      · rw [e1] at y
        injection y with y _
        exact hc y
  · obtain ⟨e1, e2⟩ := drop_ge (ns := ns) h
    exact .inr ⟨by rw [e2]; decide, fun l y => by rw [e1] at y; cases y⟩
theorem at45 {ns : List Int} (hb : Okb ns) (k : Nat) : (pk ns k = 45 ∧ (toB ns).drop k = 45 :: (toB ns).drop (k + 1)) ∨ (pk ns k ≠ 45 ∧ ∀ l, (toB ns).drop k ≠ 45 :: l) := by
  by_cases h : k < ns.length
  · obtain ⟨c, e1, e2⟩ := drop_lt hb h
    by_cases hc : c = 45
    · subst hc
      exact .inl ⟨by rw [e2]; rfl, e1⟩
    · refine .inr ⟨fun y => hc ?_, fun l y => ?_⟩
      · apply UInt8.toNat_inj.mp
        rw [e2] at y
        show c.toNat = 45
        omega
      · rw [e1] at y
        injection y with y _
        exact hc y
  · obtain ⟨e1, e2⟩ := drop_ge (ns := ns) h
    exact .inr ⟨by rw [e2]; decide, fun l y => by rw [e1] at y; cases y⟩
theorem bare_er {most p q : Nat} {neg s : Bool} {b : Bytes} (h : wholeAt most p b = .error q) : bareAt most neg s p b = .error q := by
  unfold bareAt
  rw [h]
theorem bare_46 {most p n q : Nat} {neg s : Bool} {b l : Bytes} (h : wholeAt most p b = .ok (n, q, 46 :: l)) : bareAt most neg s p b = (tailAt (s && n == 0) 9 [] (q + 1) l).map fun (x : List Nat × (Nat × Bytes)) => (⟨neg, n, x.1⟩, x.2) := by
  unfold bareAt
  rw [h]
  rfl
theorem bare_no {most p n q : Nat} {neg s : Bool} {b c : Bytes} (h : wholeAt most p b = .ok (n, q, c)) (hc : ∀ l, c ≠ 46 :: l) : bareAt most neg s p b = if (s && n == 0) = true then .error q else .ok (⟨neg, n, []⟩, q, c) := by
  unfold bareAt
  rw [h]
  dsimp only
  split
  · rename_i l
    exact absurd rfl (hc l)
  · rfl
theorem bare_sim {ns : List Int} (hb : Okb ns) {D hi : Nat} (eh : hi + 1 = 10 ^ D) (hD : 0 < D) (neg nn : Bool) (k : Nat) : Like (toB ns) (bareAt D neg nn k ((toB ns).drop k)) (bareG ns hi neg nn k) := by
  unfold bareG
  rcases (whole_simD (lo := 0) hb eh hD (by decide) k (.inl rfl)).out with ⟨p, s1, m1⟩ | ⟨v, k2, s1, m1⟩
  · rw [bare_er s1, m1]
    exact .inl ⟨p, rfl, rfl⟩
  · have m1' : rb ns 0 hi k = .ok (v, k2) := m1
    rw [m1']
    dsimp only
    have hz : ∀ u : Nat, (nn && u == 0) = (nn && decide (u = 0)) := fun u => by
      cases nn with
      | false => rfl
      | true =>
        rw [Bool.true_and, Bool.true_and, Bool.eq_iff_iff, beq_iff_eq, decide_eq_true_eq]
    rcases at46 hb k2 with ⟨h46, e46⟩ | ⟨h46, e46⟩
    · rw [if_pos h46]
      rw [e46] at s1
      rw [bare_46 s1]
      obtain ⟨l', r1, r2, r3⟩ := tail_sim hb nn 9 v 0 (k2 + 1) [] rfl (fun z => absurd z (by decide))
      rw [hz, r3]
      unfold tailM
      generalize hx : tlM ns nn 9 v 0 (k2 + 1) = x at r1 r2
      obtain ⟨u, m, k3⟩ := x
      dsimp only at r1 r2 ⊢
      by_cases c0 : m = 0
      · rw [if_pos c0, if_pos (.inl c0)]
        exact .inl ⟨k3, rfl, rfl⟩
      · rw [if_neg c0]
        dsimp only
        by_cases c1 : nn = true ∧ u = 0
        · rw [if_pos c1, if_pos (.inr c1)]
          exact .inl ⟨k3, rfl, rfl⟩
        · rw [if_neg c1, if_neg fun y => y.elim c0 c1]
          refine .inr ⟨⟨neg, v, l'⟩, k3, rfl, ?_⟩
          unfold decOf
          dsimp only
          rw [← r1, r2, Nat.zero_add]
    · rw [if_neg h46, bare_no s1 e46, hz]
      by_cases c1 : nn = true ∧ v = 0
      · rw [if_pos c1, if_pos (by simp [c1])]
        exact .inl ⟨k2, rfl, rfl⟩
      · rw [if_neg c1, if_neg (by simpa using c1)]
        exact .inr ⟨⟨neg, v, []⟩, k2, rfl, rfl⟩
theorem rb_nodig {ns : List Int} {lo hi k : Nat} (h : pd ns k = -1) : rb ns lo hi k = .error k := by
  rw [rb_fin]
  have er : ∀ g, rbl ns lo hi k g 0 k = (0, k) := fun g => by
    cases g with
    | zero => rfl
    | succ g =>
      show (if _ then _ else _) = _
      rw [if_neg fun y => by rw [h] at y; exact absurd y.1 (by decide)]
  rw [er]
  unfold fin
  rw [if_pos (.inl rfl)]
theorem dec_simD {ns : List Int} (hb : Okb ns) {D hi : Nat} (eh : hi + 1 = 10 ^ D) (hD : 0 < D) (b s : Bool) (k : Nat) : Like (toB ns) (decAt D b s k ((toB ns).drop k)) (decG ns hi b s k) := by
  rw [decM_bare]
  rcases at45 hb k with ⟨h45, e45⟩ | ⟨h45, e45⟩
  · rw [decide_eq_true h45, Bool.and_true, e45]
    have ed : ∀ l : Bytes, decAt D b s k (45 :: l) = if b = true then bareAt D true true (k + 1) l else .error k := fun _ => rfl
    rw [ed]
    cases b with
    | true => exact bare_sim hb eh hD true true (k + 1)
    | false =>
      rw [if_neg (by decide), if_neg (by decide)]
      unfold bareG
      have hp : pd ns k = -1 := by unfold pd; rw [h45]; rfl
      rw [rb_nodig hp]
      exact .inl ⟨k, rfl, rfl⟩
  · rw [decide_eq_false h45, Bool.and_false, Bool.false_or, if_neg (by decide)]
    have ed : decAt D b s k ((toB ns).drop k) = bareAt D false s k ((toB ns).drop k) := by
      unfold decAt
      split
      · rename_i l heq
        exact absurd heq (e45 l)
      · rfl
    rw [ed]
    exact bare_sim hb eh hD false s k
theorem dec_sim {ns : List Int} (hb : Okb ns) (b s : Bool) (k : Nat) : Like (toB ns) (decAt BEFORE b s k ((toB ns).drop k)) (decM ns b s k) := dec_simD hb (D := BEFORE) (hi := MOST) (by decide) (by decide) b s k
end Ab

/-! Rows, tasks, problems, sheets. -/
namespace Ab
open NaCt
theorem lf_codes : LF = ([10] : List Nat).map UInt8.ofNat := rfl
theorem sp_codes : ([32] : Bytes) = ([32] : List Nat).map UInt8.ofNat := rfl
theorem ex_sim {ns : List Int} (hb : Okb ns) (c k : Nat) (hc : c < 256) (cs : Bytes) (e : cs = ([c] : List Nat).map UInt8.ofNat) : (∃ p, expect cs k ((toB ns).drop k) = .error p ∧ exW ns [c] k = .error p) ∨ ∃ k', expect cs k ((toB ns).drop k) = .ok ((), k', (toB ns).drop k') ∧ exW ns [c] k = .ok k' := by
  subst e
  have h := (expect_sim hb [c] k (by intro d hd; simp at hd; omega)).out
  cases hx : exW ns [c] k with
  | error p =>
    rw [hx] at h
    rcases h with ⟨q, h1, h2⟩ | ⟨_, _, h1, h2⟩
    · cases h2; exact .inl ⟨p, h1, rfl⟩
    · cases h2
  | ok k' =>
    rw [hx] at h
    rcases h with ⟨q, h1, h2⟩ | ⟨_, _, h1, h2⟩
    · cases h2
    · cases h2; exact .inr ⟨k', h1, rfl⟩
theorem rows_sim {ns : List Int} (hb : Okb ns) : ∀ (n k : Nat), Sim (toB ns) id (rowsAt n k ((toB ns).drop k)) (rowsM ns n k)
  | 0, k => .ok [] k
  | n + 1, k => by
    unfold rowsAt rowsM
    rcases (row_sim hb k).out with ⟨p, s1, m1⟩ | ⟨z, k1, s1, m1⟩
    · rw [s1, m1]; exact .er p
    · have m1' : rowM ns k = .ok (z, k1) := m1
      rw [s1, m1']
      show Sim (toB ns) id (expect LF k1 ((toB ns).drop k1) >>= _) _
      rcases ex_sim hb 10 k1 (by decide) LF lf_codes with ⟨p, s2, m2⟩ | ⟨k2, s2, m2⟩
      · rw [s2]; dsimp only; rw [m2]; exact .er p
      · rw [s2]; dsimp only; rw [m2]
        show Sim (toB ns) id (rowsAt n k2 ((toB ns).drop k2) >>= _) _
        dsimp only
        rcases (rows_sim hb n k2).out with ⟨p, s3, m3⟩ | ⟨l, k3, s3, m3⟩
        · rw [s3, m3]; exact .er p
        · rw [s3, m3]; exact .ok (z :: l) k3
def kdOf : Task → Kd
  | .sum _ => .sum
  | .product _ _ _ => .product
  | .quotient _ _ _ => .quotient
  | .root _ _ => .root
def numsOf : Task → List (Int × Nat)
  | .sum l => l.map fun z => (z, 0)
  | .product a b _ => [decOf a, decOf b]
  | .quotient a b _ => [decOf a, decOf b]
  | .root a _ => [decOf a]
def pmOf (p : Problem) : PM := ⟨p.points, kdOf p.task, numsOf p.task, places p.task⟩
/-- behind the points -/
def taskM (ns : List Int) (pts k2 : Nat) : Except Nat (PM × Nat) := match kindM ns k2 with
  | .error p => .error p
  | .ok (d, k3) => match exW ns [32] k3 with
    | .error p => .error p
    | .ok k4 => if d = .sum then (rowsAll ns k4).map fun x => (⟨pts, .sum, x.1.map fun z => (z, 0), 0⟩, x.2) else match opsM ns d k4 with
      | .error p => .error p
      | .ok (ds, k5) => match rb ns 0 9 k5 with
        | .error p => .error p
        | .ok (pl, k6) => (exW ns [10] k6).map fun k7 => (⟨pts, d, ds, pl⟩, k7)
theorem exW_app {ns : List Int} (ds : List Nat) : ∀ (cs : List Nat) (k : Nat), exW ns (cs ++ ds) k = (match exW ns cs k with | .error p => .error p | .ok k' => exW ns ds k')
  | [], k => rfl
  | c :: cs, k => by
    show (if pk ns k = (c : Int) then exW ns (cs ++ ds) (k + 1) else .error k) = (match (if pk ns k = (c : Int) then exW ns cs (k + 1) else .error k) with | .error p => .error p | .ok k' => exW ns ds k')
    by_cases h : pk ns k = (c : Int)
    · rw [if_pos h, if_pos h]; exact exW_app ds cs (k + 1)
    · rw [if_neg h, if_neg h]
/-- the word of a kind and the blank behind it -/
theorem word_sim {ns : List Int} (hb : Okb ns) (d : Kd) (k : Nat) (w : Bytes) (e : w = (d.codes ++ [32]).map UInt8.ofNat) (hk : kdAt (pk ns k) = some d) :
    (∃ p, expect w k ((toB ns).drop k) = .error p ∧ (match kindM ns k with | .error p => .error p | .ok (_, k3) => exW ns [32] k3) = (.error p : Except Nat Nat)) ∨
    ∃ k3 k4, expect w k ((toB ns).drop k) = .ok ((), k4, (toB ns).drop k4) ∧ kindM ns k = .ok (d, k3) ∧ exW ns [32] k3 = .ok k4 := by
  subst e
  have h := (expect_sim hb (d.codes ++ [32]) k (by cases d <;> decide)).out
  rw [exW_app] at h
  have hkm : kindM ns k = (exW ns d.codes k).map fun k' => (d, k') := by unfold kindM; rw [hk]
  rw [hkm]
  cases hx : exW ns d.codes k with
  | error p =>
    rw [hx] at h
    rcases h with ⟨q, h1, h2⟩ | ⟨_, _, h1, h2⟩
    · cases h2; exact .inl ⟨p, h1, rfl⟩
    · cases h2
  | ok k3 =>
    rw [hx] at h
    dsimp only at h
    cases hy : exW ns [32] k3 with
    | error p =>
      rw [hy] at h
      rcases h with ⟨q, h1, h2⟩ | ⟨_, _, h1, h2⟩
      · cases h2
        refine .inl ⟨p, h1, ?_⟩
        show exW ns [32] k3 = _
        exact hy
      · cases h2
    | ok k4 =>
      rw [hy] at h
      rcases h with ⟨q, h1, h2⟩ | ⟨_, _, h1, h2⟩
      · cases h2
      · cases h2
        exact .inr ⟨k3, k4, h1, rfl, hy⟩
theorem task_er {ns : List Int} {pts k p : Nat} (h : (match kindM ns k with | .error p => .error p | .ok (_, k3) => exW ns [32] k3) = (.error p : Except Nat Nat)) : taskM ns pts k = .error p := by
  unfold taskM
  cases hk : kindM ns k with
  | error q => rw [hk] at h; cases h; rfl
  | ok x =>
    rw [hk] at h
    have h' : exW ns [32] x.2 = .error p := h
    dsimp only
    rw [h']
theorem task_ok {ns : List Int} {pts k k3 k4 : Nat} {d : Kd} (h1 : kindM ns k = .ok (d, k3)) (h2 : exW ns [32] k3 = .ok k4) : taskM ns pts k = (if d = .sum then (rowsAll ns k4).map fun x => (⟨pts, .sum, x.1.map fun z => (z, 0), 0⟩, x.2) else match opsM ns d k4 with
      | .error p => .error p
      | .ok (ds, k5) => match rb ns 0 9 k5 with
        | .error p => .error p
        | .ok (pl, k6) => (exW ns [10] k6).map fun k7 => (⟨pts, d, ds, pl⟩, k7)) := by
  unfold taskM
  rw [h1]
  dsimp only
  rw [h2]
def restM (ns : List Int) (pts : Nat) (d : Kd) (k4 : Nat) : Except Nat (PM × Nat) := match opsM ns d k4 with
  | .error p => .error p
  | .ok (ds, k5) => match rb ns 0 9 k5 with
    | .error p => .error p
    | .ok (pl, k6) => (exW ns [10] k6).map fun k7 => (⟨pts, d, ds, pl⟩, k7)
theorem rest_er {ns : List Int} {pts k4 p : Nat} {d : Kd} (h : opsM ns d k4 = .error p) : restM ns pts d k4 = .error p := by unfold restM; rw [h]
/-- the places, the row's end: the specification and the program -/
theorem end_sim {ns : List Int} (hb : Okb ns) {pts k4 k5 : Nat} {d : Kd} {ds : List (Int × Nat)} (ho : opsM ns d k4 = .ok (ds, k5)) {α : Type} (g : Nat → α) :
    (∃ p, (do let n ← numAt 0 9 k5 ((toB ns).drop k5); let e ← expect LF n.2.1 n.2.2; return (g n.1, e.2)) = (Except.error p : Except Nat (α × (Nat × Bytes))) ∧ restM ns pts d k4 = .error p) ∨
    ∃ pl k7, (do let n ← numAt 0 9 k5 ((toB ns).drop k5); let e ← expect LF n.2.1 n.2.2; return (g n.1, e.2)) = (Except.ok (g pl, k7, (toB ns).drop k7) : Except Nat (α × (Nat × Bytes))) ∧ restM ns pts d k4 = .ok (⟨pts, d, ds, pl⟩, k7) := by
  unfold restM
  rw [ho]
  dsimp only
  rcases (numAt_sim (lo := 0) (hi := 9) hb (by decide) k5).out with ⟨p, s1, m1⟩ | ⟨pl, k6, s1, m1⟩
  · rw [s1, m1]; exact .inl ⟨p, rfl, rfl⟩
  · have m1' : rb ns 0 9 k5 = .ok (pl, k6) := m1
    rw [s1, m1']
    rcases ex_sim hb 10 k6 (by decide) LF lf_codes with ⟨p, s2, m2⟩ | ⟨k7, s2, m2⟩
    · refine .inl ⟨p, ?_, ?_⟩
      · show (expect LF k6 ((toB ns).drop k6) >>= _) = _
        rw [s2]; rfl
      · dsimp only; rw [m2]; rfl
    · refine .inr ⟨pl, k7, ?_, ?_⟩
      · show (expect LF k6 ((toB ns).drop k6) >>= _) = _
        rw [s2]; rfl
      · dsimp only; rw [m2]; rfl
theorem pair_sim {ns : List Int} (hb : Okb ns) {pts : Nat} {d : Kd} (hd : d ≠ .root) (k : Nat) :
    (∃ p, pairAt (decide (d = .quotient)) k ((toB ns).drop k) = .error p ∧ restM ns pts d k = .error p) ∨
    ∃ a b pl k7, pairAt (decide (d = .quotient)) k ((toB ns).drop k) = .ok ((a, b, pl), k7, (toB ns).drop k7) ∧ restM ns pts d k = .ok (⟨pts, d, [decOf a, decOf b], pl⟩, k7) := by
  unfold pairAt
  rcases dec_sim hb true false k with ⟨p, s1, m1⟩ | ⟨a, k1, s1, m1⟩
  · have ho : opsM ns d k = .error p := by unfold opsM; rw [decide_eq_true hd, m1]
    rw [s1, rest_er ho]
    exact .inl ⟨p, rfl, rfl⟩
  · rw [s1]
    show (∃ p, (expect [32] k1 ((toB ns).drop k1) >>= _) = _ ∧ _) ∨ ∃ x y pl k7, (expect [32] k1 ((toB ns).drop k1) >>= _) = _ ∧ _
    rcases ex_sim hb 32 k1 (by decide) [32] sp_codes with ⟨p, s2, m2⟩ | ⟨k2, s2, m2⟩
    · have ho : opsM ns d k = .error p := by unfold opsM; rw [decide_eq_true hd, m1]; dsimp only; rw [m2]
      rw [s2, rest_er ho]
      exact .inl ⟨p, rfl, rfl⟩
    · rw [s2]
      show (∃ p, (decAt BEFORE true (decide (d = .quotient)) k2 ((toB ns).drop k2) >>= _) = _ ∧ _) ∨ ∃ x y pl k7, (decAt BEFORE true (decide (d = .quotient)) k2 ((toB ns).drop k2) >>= _) = _ ∧ _
      rcases dec_sim hb true (decide (d = .quotient)) k2 with ⟨p, s3, m3⟩ | ⟨b, k3, s3, m3⟩
      · have ho : opsM ns d k = .error p := by unfold opsM; rw [decide_eq_true hd, m1]; dsimp only; rw [m2]; dsimp only; rw [if_neg hd, m3]
        rw [s3, rest_er ho]
        exact .inl ⟨p, rfl, rfl⟩
      · rw [s3]
        show (∃ p, (expect [32] k3 ((toB ns).drop k3) >>= _) = _ ∧ _) ∨ ∃ x y pl k7, (expect [32] k3 ((toB ns).drop k3) >>= _) = _ ∧ _
        rcases ex_sim hb 32 k3 (by decide) [32] sp_codes with ⟨p, s4, m4⟩ | ⟨k4, s4, m4⟩
        · have ho : opsM ns d k = .error p := by unfold opsM; rw [decide_eq_true hd, m1]; dsimp only; rw [m2]; dsimp only; rw [if_neg hd, m3]; dsimp only; rw [m4]; rfl
          rw [s4, rest_er ho]
          exact .inl ⟨p, rfl, rfl⟩
        · have ho : opsM ns d k = .ok ([decOf a, decOf b], k4) := by unfold opsM; rw [decide_eq_true hd, m1]; dsimp only; rw [m2]; dsimp only; rw [if_neg hd, m3]; dsimp only; rw [m4]; rfl
          rw [s4]
          rcases end_sim (pts := pts) hb ho (fun pl => (a, b, pl)) with ⟨p, s5, m5⟩ | ⟨pl, k7, s5, m5⟩
          · exact .inl ⟨p, s5, m5⟩
          · exact .inr ⟨a, b, pl, k7, s5, m5⟩
theorem task_sim {ns : List Int} (hb : Okb ns) (pts k : Nat) : Sim (toB ns) (fun t => pmOf ⟨pts, t⟩) (taskAt k ((toB ns).drop k)) (taskM ns pts k) := by
  have none_ : kdAt (pk ns k) = none → taskM ns pts k = .error k := fun h => by
    unfold taskM kindM
    rw [h]
  by_cases h : k < ns.length
  · obtain ⟨c, e1, e2⟩ := drop_lt hb h
    have cn : ∀ d : UInt8, c = d ↔ pk ns k = (d.toNat : Int) := fun d => by
      rw [e2]
      constructor
      · intro z; rw [z]
      · intro z
        apply UInt8.toNat_inj.mp
        omega
    by_cases h1 : c = 115
    · subst h1
      have hk : kdAt (pk ns k) = some .sum := by rw [e2]; rfl
      have et : taskAt k ((toB ns).drop k) = (do
          let e ← expect (ascii "sum ") k ((toB ns).drop k)
          let n ← numAt 2 64 e.2.1 e.2.2
          let e ← expect LF n.2.1 n.2.2
          let l ← rowsAt n.1 e.2.1 e.2.2
          return (.sum l.1, l.2)) := by rw [e1]; rfl
      rw [et]
      rcases word_sim hb .sum k (ascii "sum ") (by decide +kernel) hk with ⟨p, s1, m1⟩ | ⟨k3, k4, s1, m1, m2⟩
      · rw [s1, task_er m1]; exact .er p
      · rw [s1, task_ok m1 m2, if_pos rfl]
        show Sim _ _ (numAt 2 64 k4 ((toB ns).drop k4) >>= _) _
        unfold rowsAll
        rcases (numAt_sim (lo := 2) (hi := 64) hb (by decide) k4).out with ⟨p, s3, m3⟩ | ⟨n, k5, s3, m3⟩
        · rw [s3, m3]; exact .er p
        · have m3' : rb ns 2 64 k4 = .ok (n, k5) := m3
          rw [s3, m3']
          dsimp only
          show Sim _ _ (expect LF k5 ((toB ns).drop k5) >>= _) _
          rcases ex_sim hb 10 k5 (by decide) LF lf_codes with ⟨p, s4, m4⟩ | ⟨k6, s4, m4⟩
          · rw [s4, m4]; exact .er p
          · rw [s4, m4]
            dsimp only
            show Sim _ _ (rowsAt n k6 ((toB ns).drop k6) >>= _) _
            rcases (rows_sim hb n k6).out with ⟨p, s5, m5⟩ | ⟨l, k7, s5, m5⟩
            · rw [s5, m5]; exact .er p
            · rw [s5, m5]; exact .ok (Task.sum l) k7
    by_cases h2 : c = 112
    · subst h2
      have hk : kdAt (pk ns k) = some .product := by rw [e2]; rfl
      have et : taskAt k ((toB ns).drop k) = (do
          let e ← expect (ascii "product ") k ((toB ns).drop k)
          let x ← pairAt false e.2.1 e.2.2
          return (.product x.1.1 x.1.2.1 x.1.2.2, x.2)) := by rw [e1]; rfl
      rw [et]
      rcases word_sim hb .product k (ascii "product ") (by decide +kernel) hk with ⟨p, s1, m1⟩ | ⟨k3, k4, s1, m1, m2⟩
      · rw [s1, task_er m1]; exact .er p
      · rw [s1, task_ok m1 m2, if_neg (by decide)]
        show Sim _ _ (pairAt false k4 ((toB ns).drop k4) >>= _) (restM ns pts .product k4)
        rcases pair_sim (pts := pts) (d := .product) hb (by decide) k4 with ⟨p, s3, m3⟩ | ⟨a, b, pl, k7, s3, m3⟩
        · have s3' : pairAt false k4 ((toB ns).drop k4) = .error p := s3
          rw [s3', m3]; exact .er p
        · have s3' : pairAt false k4 ((toB ns).drop k4) = .ok ((a, b, pl), k7, (toB ns).drop k7) := s3
          rw [s3', m3]; exact .ok (Task.product a b pl) k7
    by_cases h3 : c = 113
    · subst h3
      have hk : kdAt (pk ns k) = some .quotient := by rw [e2]; rfl
      have et : taskAt k ((toB ns).drop k) = (do
          let e ← expect (ascii "quotient ") k ((toB ns).drop k)
          let x ← pairAt true e.2.1 e.2.2
          return (.quotient x.1.1 x.1.2.1 x.1.2.2, x.2)) := by rw [e1]; rfl
      rw [et]
      rcases word_sim hb .quotient k (ascii "quotient ") (by decide +kernel) hk with ⟨p, s1, m1⟩ | ⟨k3, k4, s1, m1, m2⟩
      · rw [s1, task_er m1]; exact .er p
      · rw [s1, task_ok m1 m2, if_neg (by decide)]
        show Sim _ _ (pairAt true k4 ((toB ns).drop k4) >>= _) (restM ns pts .quotient k4)
        rcases pair_sim (pts := pts) (d := .quotient) hb (by decide) k4 with ⟨p, s3, m3⟩ | ⟨a, b, pl, k7, s3, m3⟩
        · have s3' : pairAt true k4 ((toB ns).drop k4) = .error p := s3
          rw [s3', m3]; exact .er p
        · have s3' : pairAt true k4 ((toB ns).drop k4) = .ok ((a, b, pl), k7, (toB ns).drop k7) := s3
          rw [s3', m3]; exact .ok (Task.quotient a b pl) k7
    by_cases h4 : c = 114
    · subst h4
      have hk : kdAt (pk ns k) = some .root := by rw [e2]; rfl
      have et : taskAt k ((toB ns).drop k) = (do
          let e ← expect (ascii "root ") k ((toB ns).drop k)
          let x ← decAt BEFORE false false e.2.1 e.2.2
          let e ← expect [32] x.2.1 x.2.2
          let n ← numAt 0 9 e.2.1 e.2.2
          let e ← expect LF n.2.1 n.2.2
          return (.root x.1 n.1, e.2)) := by rw [e1]; rfl
      rw [et]
      rcases word_sim hb .root k (ascii "root ") (by decide +kernel) hk with ⟨p, s1, m1⟩ | ⟨k3, k4, s1, m1, m2⟩
      · rw [s1, task_er m1]; exact .er p
      · rw [s1, task_ok m1 m2, if_neg (by decide)]
        show Sim _ _ (decAt BEFORE false false k4 ((toB ns).drop k4) >>= _) (restM ns pts .root k4)
        rcases dec_sim hb false false k4 with ⟨p, s3, m3⟩ | ⟨a, k5, s3, m3⟩
        · have ho : opsM ns .root k4 = .error p := by unfold opsM; rw [decide_eq_false (by decide), m3]
          rw [s3, rest_er ho]; exact .er p
        · rw [s3]
          show Sim _ _ (expect [32] k5 ((toB ns).drop k5) >>= _) _
          rcases ex_sim hb 32 k5 (by decide) [32] sp_codes with ⟨p, s4, m4⟩ | ⟨k6, s4, m4⟩
          · have ho : opsM ns .root k4 = .error p := by unfold opsM; rw [decide_eq_false (by decide), m3]; dsimp only; rw [m4]
            rw [s4, rest_er ho]; exact .er p
          · have ho : opsM ns .root k4 = .ok ([decOf a], k6) := by unfold opsM; rw [decide_eq_false (by decide), m3]; dsimp only; rw [m4]; dsimp only; rw [if_pos rfl]
            rw [s4]
            rcases end_sim (pts := pts) hb ho (fun pl => Task.root a pl) with ⟨p, s5, m5⟩ | ⟨pl, k7, s5, m5⟩
            · rw [m5]
              show Sim (toB ns) (fun t => pmOf ⟨pts, t⟩) (do
                let n ← numAt 0 9 k6 ((toB ns).drop k6)
                let e ← expect LF n.2.1 n.2.2
                return (Task.root a n.1, e.2)) _
              rw [s5]
              exact .er p
            · rw [m5]
              show Sim (toB ns) (fun t => pmOf ⟨pts, t⟩) (do
                let n ← numAt 0 9 k6 ((toB ns).drop k6)
                let e ← expect LF n.2.1 n.2.2
                return (Task.root a n.1, e.2)) _
              rw [s5]
              exact .ok (Task.root a pl) k7
    have hk : kdAt (pk ns k) = none := by
      unfold kdAt
      rw [if_neg fun z : pk ns k = 115 => h1 ((cn 115).mpr z), if_neg fun z : pk ns k = 112 => h2 ((cn 112).mpr z), if_neg fun z : pk ns k = 113 => h3 ((cn 113).mpr z), if_neg fun z : pk ns k = 114 => h4 ((cn 114).mpr z)]
    rw [none_ hk]
    have et : taskAt k ((toB ns).drop k) = .error k := by
      rw [e1]
      unfold taskAt
      split
      · rename_i heq; injection heq with z _; exact absurd z h1
      · rename_i heq; injection heq with z _; exact absurd z h2
      · rename_i heq; injection heq with z _; exact absurd z h3
      · rename_i heq; injection heq with z _; exact absurd z h4
      · rfl
    rw [et]
    exact .er k
  · obtain ⟨e1, e2⟩ := drop_ge (ns := ns) h
    rw [none_ (by rw [e2]; rfl), e1]
    exact .er k
theorem prob_split (ns : List Int) (k : Nat) : probM ns k = (match rb ns 1 999 k with
    | .error p => .error p
    | .ok (pts, k1) => match exW ns [32] k1 with
      | .error p => .error p
      | .ok k2 => taskM ns pts k2) := by
  unfold probM
  cases rb ns 1 999 k with
  | error p => rfl
  | ok x => rfl
def probAt (p : Nat) (b : Bytes) : Except Nat (Problem × (Nat × Bytes)) := do
  let n ← numAt 1 999 p b
  let e ← expect [32] n.2.1 n.2.2
  let t ← taskAt e.2.1 e.2.2
  return (⟨n.1, t.1⟩, t.2)
theorem prob_sim {ns : List Int} (hb : Okb ns) (k : Nat) : Sim (toB ns) pmOf (probAt k ((toB ns).drop k)) (probM ns k) := by
  rw [prob_split]
  unfold probAt
  rcases (numAt_sim (lo := 1) (hi := 999) hb (by decide) k).out with ⟨p, s1, m1⟩ | ⟨pts, k1, s1, m1⟩
  · rw [s1, m1]; exact .er p
  · have m1' : rb ns 1 999 k = .ok (pts, k1) := m1
    rw [s1, m1']
    dsimp only
    show Sim _ _ (expect [32] k1 ((toB ns).drop k1) >>= _) _
    rcases ex_sim hb 32 k1 (by decide) [32] sp_codes with ⟨p, s2, m2⟩ | ⟨k2, s2, m2⟩
    · rw [s2, m2]; exact .er p
    · rw [s2, m2]
      dsimp only
      show Sim _ _ (taskAt k2 ((toB ns).drop k2) >>= _) _
      rcases (task_sim hb pts k2).out with ⟨p, s3, m3⟩ | ⟨t, k3, s3, m3⟩
      · rw [s3, m3]; exact .er p
      · rw [s3, m3]; exact .ok (⟨pts, t⟩ : Problem) k3
theorem problems_go (f p : Nat) (b : Bytes) (h : b.isEmpty = false) : problemsAt (f + 1) p b = (do
    let x ← probAt p b
    let r ← problemsAt f x.2.1 x.2.2
    return x.1 :: r) := by
  show (if b.isEmpty = true then _ else _) = _
  rw [if_neg (by rw [h]; decide)]
  unfold probAt
  cases numAt 1 999 p b with
  | error q => rfl
  | ok n =>
    show (expect [32] n.2.1 n.2.2 >>= _) = ((expect [32] n.2.1 n.2.2 >>= _) >>= _)
    cases expect [32] n.2.1 n.2.2 with
    | error q => rfl
    | ok e =>
      show (taskAt e.2.1 e.2.2 >>= _) = ((taskAt e.2.1 e.2.2 >>= _) >>= _)
      cases taskAt e.2.1 e.2.2 with
      | error q => rfl
      | ok t => rfl
theorem exW_one {ns : List Int} {c k k' : Nat} (h : exW ns [c] k = .ok k') : k' ≤ ns.length := by
  unfold exW at h
  split at h
  · rename_i e
    injection h with h
    rcases Nat.lt_or_ge k ns.length with z | z
    · omega
    · rw [(drop_ge (ns := ns) (k := k) (by omega)).2] at e
      omega
  · cases h
theorem rowsM_le {ns : List Int} : ∀ (n k : Nat) (x : List Int × Nat), k ≤ ns.length → rowsM ns n k = .ok x → x.2 ≤ ns.length
  | 0, k, x, hk, h => by injection h with h; rw [← h]; exact hk
  | n + 1, k, x, hk, h => by
    unfold rowsM at h
    split at h
    · cases h
    · rename_i z k1 e1
      split at h
      · cases h
      · rename_i k2 e2
        obtain ⟨y, e, rfl⟩ := map_ok h
        exact rowsM_le n k2 y (exW_one e2) e
theorem probM_le {ns : List Int} {k : Nat} {x : PM × Nat} (h : probM ns k = .ok x) : x.2 ≤ ns.length := by
  unfold probM at h
  split at h
  · cases h
  · split at h
    · cases h
    · split at h
      · cases h
      · split at h
        · cases h
        · rename_i k4 e4
          split at h
          · obtain ⟨y, e, rfl⟩ := map_ok h
            unfold rowsAll at e
            split at e
            · cases e
            · split at e
              · cases e
              · rename_i k6 e6
                exact rowsM_le _ _ _ (exW_one e6) e
          · split at h
            · cases h
            · split at h
              · cases h
              · obtain ⟨y, e, rfl⟩ := map_ok h
                exact exW_one e
/-- **A sheet is read alike** -/
theorem sheet_sim {ns : List Int} (hb : Okb ns) : ∀ (f k : Nat), k ≤ ns.length → sheetM ns f k = (problemsAt f k ((toB ns).drop k)).map fun s => s.map pmOf
  | 0, k, _ => rfl
  | f + 1, k, hk => by
    show (if k = ns.length then _ else _) = _
    by_cases h : k = ns.length
    · rw [if_pos h]
      have e : (toB ns).drop k = [] := (drop_ge (by omega)).1
      rw [e]
      rfl
    · rw [if_neg h]
      obtain ⟨c, e1, e2⟩ := drop_lt hb (k := k) (by omega)
      rw [problems_go f k _ (by rw [e1]; rfl)]
      rcases (prob_sim hb k).out with ⟨p, s1, m1⟩ | ⟨x, k1, s1, m1⟩
      · rw [s1, m1]; rfl
      · rw [s1, m1]
        dsimp only
        have ih := sheet_sim hb f k1 (probM_le m1)
        rw [ih]
        show _ = (problemsAt f k1 ((toB ns).drop k1) >>= _).map _
        cases problemsAt f k1 ((toB ns).drop k1) with
        | error p => rfl
        | ok r => rfl
theorem readSheet_eq {ns : List Int} (hb : Okb ns) : sheetM ns (ns.length + 1) 0 = (readSheet (toB ns)).map fun s => s.map pmOf := by
  have h := sheet_sim hb (ns.length + 1) 0 (Nat.zero_le _)
  rw [List.drop_zero] at h
  rw [h]
  unfold readSheet
  have : (toB ns).length = ns.length := by unfold toB; exact List.length_map _
  rw [this]
theorem bytesOf_ok {ns : List Int} (hb : Okb ns) : ShNeutral.bytesOf ns = some (toB ns) := by
  unfold ShNeutral.bytesOf
  rw [if_pos]
  · rfl
  · unfold NeutralIO.bytes
    rw [List.all_eq_true]
    intro n hn
    obtain ⟨h1, h2⟩ := hb n hn
    simp [h1, h2]
/-- what is due of sheet -/
theorem sheet_due {ns : List Int} (hb : Okb ns) : PyYqacfa.sheet ns = if 16384 < ns.length then [-6] else match sheetM ns (ns.length + 1) 0 with
    | .error p => [-5, 12, (p : Int)]
    | .ok xs => [(xs.length : Int)] := by
  have e : PyYqacfa.sheet ns = ShNeutral.told (Sh.answer (.sheet (toB ns))) := by
    have c : ShNeutral.callOf [[1], ns] = some (.sheet (toB ns)) := by
      show (ShNeutral.bytesOf ns).map _ = _
      rw [bytesOf_ok hb]
      rfl
    unfold PyYqacfa.sheet ShNeutral.step
    rw [c]
    rfl
  rw [e, readSheet_eq hb]
  have hl : (toB ns).length = ns.length := by unfold toB; exact List.length_map _
  unfold Sh.answer
  dsimp only
  rw [hl]
  by_cases h : 16384 < ns.length
  · rw [if_pos h, if_pos (show Sh.LONGEST < ns.length from h)]
    rfl
  · rw [if_neg h, if_neg (show ¬ Sh.LONGEST < ns.length from h)]
    unfold Sh.withSheet
    cases readSheet (toB ns) with
    | error p => rfl
    | ok s =>
      show [(s.length : Int)] = [((s.map pmOf).length : Int)]
      rw [List.length_map]
end Ab

set_option linter.all false
set_option maxRecDepth 100000
set_option maxHeartbeats 2000000
/-! Answers handed in: the reading as plain functions, and what is due of mark, ranks, grade. -/
namespace Ab
open NaCt
def GMOST : Nat := 9999999999999999999999999999999999999999
theorem gmost : GMOST + 1 = 10 ^ GIVEN := by decide
def givenM (ns : List Int) : Nat → Nat → Except Nat (List (Option (Int × Nat)))
  | 0, k => .error k
  | f + 1, k => if k = ns.length then .ok [] else if pk ns k = 45 ∧ pk ns (k + 1) = 10 then (givenM ns f (k + 2)).map fun l => none :: l else match decG ns GMOST true false k with
    | .error p => .error p
    | .ok (u, m, k1) => match exW ns [10] k1 with
      | .error p => .error p
      | .ok k2 => (givenM ns f k2).map fun l => some (u, m) :: l
def timeC : List Nat := [116, 105, 109, 101, 32]
def answersM (ns : List Int) : Except Nat (Nat × List (Option (Int × Nat))) := match exW ns timeC 0 with
  | .error p => .error p
  | .ok k => match rb ns 0 99999 k with
    | .error p => .error p
    | .ok (t, k1) => match exW ns [10] k1 with
      | .error p => .error p
      | .ok k2 => (givenM ns (ns.length + 1) k2).map fun l => (t, l)
theorem at10 {ns : List Int} (hb : Okb ns) (k : Nat) : (pk ns k = 10 ∧ (toB ns).drop k = 10 :: (toB ns).drop (k + 1)) ∨ (pk ns k ≠ 10 ∧ ∀ l, (toB ns).drop k ≠ 10 :: l) := by
  by_cases h : k < ns.length
  · obtain ⟨c, e1, e2⟩ := drop_lt hb h
    by_cases hc : c = 10
    · subst hc
      exact .inl ⟨by rw [e2]; rfl, e1⟩
    · refine .inr ⟨fun y => hc ?_, fun l y => ?_⟩
      · apply UInt8.toNat_inj.mp
        rw [e2] at y
        show c.toNat = 10
        omega
      · rw [e1] at y
        injection y with y _
        exact hc y
  · obtain ⟨e1, e2⟩ := drop_ge (ns := ns) h
    exact .inr ⟨by rw [e2]; decide, fun l y => by rw [e1] at y; cases y⟩
theorem left_out {ns : List Int} (hb : Okb ns) (k : Nat) : (pk ns k = 45 ∧ pk ns (k + 1) = 10) ↔ ((toB ns).drop k).take 2 = [45, 10] := by
  constructor
  · rintro ⟨h1, h2⟩
    rcases at45 hb k with ⟨_, e⟩ | ⟨n, _⟩
    · rcases at10 hb (k + 1) with ⟨_, e'⟩ | ⟨n, _⟩
      · rw [e, e']; rfl
      · exact absurd h2 n
    · exact absurd h1 n
  · intro h
    rcases at45 hb k with ⟨h1, e⟩ | ⟨_, n⟩
    · rw [e] at h
      refine ⟨h1, ?_⟩
      rcases at10 hb (k + 1) with ⟨h2, _⟩ | ⟨_, n⟩
      · exact h2
      · cases hd : (toB ns).drop (k + 1) with
        | nil => rw [hd] at h; cases h
        | cons c l =>
          rw [hd] at h
          have h : [45, c] = ([45, 10] : Bytes) := h
          injection h with _ h
          injection h with h _
          subst h
          exact absurd hd (n l)
    · cases hd : (toB ns).drop k with
      | nil => rw [hd] at h; cases h
      | cons c l =>
        rw [hd] at h
        have h : c :: l.take 1 = ([45, 10] : Bytes) := h
        injection h with h _
        subst h
        exact absurd hd (n l)
theorem given_sim {ns : List Int} (hb : Okb ns) : ∀ (f k : Nat), k ≤ ns.length → givenM ns f k = (givenAt f k ((toB ns).drop k)).map fun l => l.map (Option.map decOf)
  | 0, k, _ => rfl
  | f + 1, k, hk => by
    show (if k = ns.length then _ else _) = _
    by_cases h : k = ns.length
    · rw [if_pos h]
      have e : (toB ns).drop k = [] := (drop_ge (by omega)).1
      rw [e]
      rfl
    · rw [if_neg h]
      obtain ⟨c, e1, e2⟩ := drop_lt hb (k := k) (by omega)
      have eg : givenAt (f + 1) k ((toB ns).drop k) = if ((toB ns).drop k).take 2 = [45, 10] then (givenAt f (k + 2) (((toB ns).drop k).drop 2)).map fun (l : List (Option Dec)) => none :: l else (do
          let x ← decAt GIVEN true false k ((toB ns).drop k)
          let e ← expect LF x.2.1 x.2.2
          let r ← givenAt f e.2.1 e.2.2
          return some x.1 :: r) := by
        show (if ((toB ns).drop k).isEmpty = true then _ else _) = _
        rw [if_neg (by rw [e1]; exact Bool.false_ne_true)]
      rw [eg]
      by_cases hc : pk ns k = 45 ∧ pk ns (k + 1) = 10
      · rw [if_pos hc, if_pos ((left_out hb k).mp hc), List.drop_drop]
        have hk2 : k + 2 ≤ ns.length := by
          rcases Nat.lt_or_ge (k + 1) ns.length with z | z
          · omega
          · have := (drop_ge (ns := ns) (k := k + 1) (by omega)).2
            omega
        rw [given_sim hb f (k + 2) hk2]
        cases givenAt f (k + 2) ((toB ns).drop (k + 2)) with
        | error p => rfl
        | ok l => rfl
      · rw [if_neg hc, if_neg fun y => hc ((left_out hb k).mpr y)]
        rcases dec_simD hb gmost (by decide) true false k with ⟨p, s1, m1⟩ | ⟨d, k1, s1, m1⟩
        · rw [s1, m1]; rfl
        · rw [s1, m1]
          dsimp only
          show _ = (expect LF k1 ((toB ns).drop k1) >>= _).map _
          rcases ex_sim hb 10 k1 (by decide) LF lf_codes with ⟨p, s2, m2⟩ | ⟨k2, s2, m2⟩
          · rw [s2, m2]; rfl
          · rw [s2, m2]
            dsimp only
            rw [given_sim hb f k2 (exW_one m2)]
            show _ = (givenAt f k2 ((toB ns).drop k2) >>= _).map _
            cases givenAt f k2 ((toB ns).drop k2) with
            | error p => rfl
            | ok l => rfl
theorem readAnswers_eq {ns : List Int} (hb : Okb ns) : answersM ns = (readAnswers (toB ns)).map fun a => (a.time, a.given.map (Option.map decOf)) := by
  unfold answersM readAnswers
  have h := (expect_sim hb timeC 0 (by decide)).out
  rw [List.drop_zero, show timeC.map UInt8.ofNat = ascii "time " by decide +kernel] at h
  cases hx : exW ns timeC 0 with
  | error p =>
    rw [hx] at h
    rcases h with ⟨q, h1, h2⟩ | ⟨_, _, h1, h2⟩
    · cases h2; rw [h1]; rfl
    · cases h2
  | ok k =>
    rw [hx] at h
    rcases h with ⟨q, h1, h2⟩ | ⟨_, _, h1, h2⟩
    · cases h2
    · cases h2
      rw [h1]
      dsimp only
      show _ = (numAt 0 99999 k ((toB ns).drop k) >>= _).map _
      rcases (numAt_sim (lo := 0) (hi := 99999) hb (by decide) k).out with ⟨p, s1, m1⟩ | ⟨t, k1, s1, m1⟩
      · rw [s1, m1]; rfl
      · have m1' : rb ns 0 99999 k = .ok (t, k1) := m1
        rw [s1, m1']
        dsimp only
        show _ = (expect LF k1 ((toB ns).drop k1) >>= _).map _
        rcases ex_sim hb 10 k1 (by decide) LF lf_codes with ⟨p, s2, m2⟩ | ⟨k2, s2, m2⟩
        · rw [s2, m2]; rfl
        · rw [s2, m2]
          dsimp only
          have hl : (toB ns).length = ns.length := by unfold toB; exact List.length_map _
          rw [given_sim hb _ k2 (exW_one m2)]
          show _ = (givenAt ((toB ns).length + 1) k2 ((toB ns).drop k2) >>= _).map _
          rw [hl]
          cases givenAt (ns.length + 1) k2 ((toB ns).drop k2) with
          | error p => rfl
          | ok l => rfl
def intL (l : List Nat) : List Int := l.map fun (n : Nat) => (n : Int)
/-- what is due of mark -/
theorem mark_due {ns us : List Int} (hb : Okb ns) (hu : Okb us) (l m b : Int) : PyYqacfa.mark l m b ns us = if 16384 < ns.length ∨ 16384 < us.length then [-6] else match readSheet (toB ns) with
    | .error p => [-5, 12, (p : Int)]
    | .ok s => match readAnswers (toB us) with
      | .error p => [-5, 13, (p : Int)]
      | .ok h => if Rules.ok ⟨l.toNat, m.toNat, b.toNat⟩ = false then [-1] else if s.length < h.given.length then [-3] else
        0 :: intL ([pointsOf ⟨l.toNat, m.toNat, b.toNat⟩ s (marks s h.given) h.time, howMany (marks s h.given) 1, howMany (marks s h.given) 2, howMany (marks s h.given) 0, h.time] ++ marks s h.given) := by
  have e : PyYqacfa.mark l m b ns us = ShNeutral.told (Sh.answer (.mark l.toNat m.toNat b.toNat (toB ns) (toB us))) := by
    have c : ShNeutral.callOf [[3, l, m, b], ns, us] = some (.mark l.toNat m.toNat b.toNat (toB ns) (toB us)) := by
      show ((ShNeutral.bytesOf ns).bind _) = _
      rw [bytesOf_ok hb]
      show ((ShNeutral.bytesOf us).map _) = _
      rw [bytesOf_ok hu]
      rfl
    unfold PyYqacfa.mark ShNeutral.step
    rw [c]
    rfl
  rw [e]
  have hl : (toB ns).length = ns.length := by unfold toB; exact List.length_map _
  have hl2 : (toB us).length = us.length := by unfold toB; exact List.length_map _
  unfold Sh.answer
  dsimp only
  rw [hl, hl2]
  by_cases h : 16384 < ns.length ∨ 16384 < us.length
  · rw [if_pos h, if_pos (show Sh.LONGEST < ns.length ∨ Sh.LONGEST < us.length from h)]
    rfl
  · rw [if_neg h, if_neg (show ¬ (Sh.LONGEST < ns.length ∨ Sh.LONGEST < us.length) from h)]
    unfold Sh.withSheet
    cases readSheet (toB ns) with
    | error p => rfl
    | ok s =>
      dsimp only
      cases readAnswers (toB us) with
      | error p => rfl
      | ok a =>
        dsimp only
        by_cases h1 : Rules.ok ⟨l.toNat, m.toNat, b.toNat⟩ = false
        · rw [if_pos h1, if_pos h1]; rfl
        · rw [if_neg h1, if_neg h1]
          by_cases h2 : s.length < a.given.length
          · rw [if_pos h2, if_pos h2]; rfl
          · rw [if_neg h2, if_neg h2]; rfl
theorem ranks_due (p t : List Int) : PyYqacfa.ranks p t = if (ShNeutral.nats p).length ≠ (ShNeutral.nats t).length then [-1] else 0 :: intL ((List.zipWith Score.mk (ShNeutral.nats p) (ShNeutral.nats t)).map (rankOf (List.zipWith Score.mk (ShNeutral.nats p) (ShNeutral.nats t)))) := by
  have e : PyYqacfa.ranks p t = ShNeutral.told (Sh.answer (.ranks (ShNeutral.nats p) (ShNeutral.nats t))) := rfl
  rw [e]
  unfold Sh.answer
  dsimp only
  by_cases h : (ShNeutral.nats p).length ≠ (ShNeutral.nats t).length
  · rw [if_pos h, if_pos h]; rfl
  · rw [if_neg h, if_neg h]; rfl
theorem grade_due (p : Int) (g : List Int) : PyYqacfa.grade p g = [(((ShNeutral.nats g).filter fun (x : Nat) => decide (x ≤ p.toNat)).length : Int)] := rfl
end Ab

set_option linter.all false
set_option maxRecDepth 100000
set_option maxHeartbeats 2000000
/-! Bounds of what is given; an answer that hits. -/
namespace Ab
open NaCt
theorem rb_leP {ns : List Int} {lo hi k : Nat} {x : Nat × Nat} (h : rb ns lo hi k = .ok x) : x.1 ≤ hi := by
  have key : ∀ f v j, v ≤ hi → (rbl ns lo hi k f v j).1 ≤ hi := by
    intro f
    induction f with
    | zero => intro v j hv; exact hv
    | succ f ih =>
      intro v j hv
      unfold rbl
      split
      · rename_i c
        exact ih _ _ (ldB_le c.2.2)
      · exact hv
  unfold rb at h
  dsimp only at h
  split at h
  · cases h
  · injection h with h
    rw [← h]
    exact key _ _ _ (Nat.zero_le _)
theorem pd_leP (ns : List Int) (k : Nat) : pd ns k ≤ 9 := by
  unfold pd
  split <;> omega
theorem tlM_okD {ns : List Int} {nn : Bool} {D : Nat} : ∀ (f u m k : Nat), u < 10 ^ (D + m) → m + f ≤ 9 → (tlM ns nn f u m k).1 < 10 ^ (D + (tlM ns nn f u m k).2.1) ∧ (tlM ns nn f u m k).2.1 ≤ 9
  | 0, u, m, k, hu, hm => ⟨hu, hm⟩
  | f + 1, u, m, k, hu, hm => by
    unfold tlM
    split
    · refine tlM_okD f _ (m + 1) (k + 1) ?_ (by omega)
      have := pd_leP ns k
      have e : 10 ^ (D + (m + 1)) = 10 ^ (D + m) * 10 := by rw [← Nat.add_assoc, Nat.pow_succ]
      rw [e]
      omega
    · exact ⟨hu, show m ≤ 9 by omega⟩
theorem signed_absP (b : Bool) (u : Nat) : (signed b u).natAbs = u := by
  unfold signed
  split <;> omega
theorem decG_okD {ns : List Int} {D hi : Nat} (eh : hi + 1 = 10 ^ D) {b s : Bool} {k : Nat} {x : Int × Nat × Nat} (h : decG ns hi b s k = .ok x) : x.1.natAbs < 10 ^ (D + x.2.1) ∧ x.2.1 ≤ 9 := by
  unfold decG at h
  dsimp only at h
  split at h
  · cases h
  · rename_i v k2 e
    have g : v ≤ hi := rb_leP e
    have g' : v < 10 ^ (D + 0) := by rw [Nat.add_zero]; omega
    split at h
    · split at h
      · cases h
      · rename_i u m k3 e2
        unfold tailM at e2
        dsimp only at e2
        split at e2
        · cases e2
        · injection e2 with e2
          have t := tlM_okD (ns := ns) (nn := (b && decide (pk ns k = 45)) || s) (D := D) 9 v 0 (k2 + 1) g' (by decide)
          rw [e2] at t
          split at h
          · cases h
          · injection h with h
            rw [← h]
            exact ⟨by rw [signed_absP]; exact t.1, t.2⟩
    · split at h
      · cases h
      · injection h with h
        rw [← h]
        exact ⟨by rw [signed_absP]; exact g', Nat.zero_le _⟩
/-- all that is given: below 10^49, nine places at most -/
theorem givenM_ok {ns : List Int} : ∀ (f k : Nat) (l : List (Option (Int × Nat))), givenM ns f k = .ok l → ∀ u m, some (u, m) ∈ l → u.natAbs < 10 ^ 49 ∧ m ≤ 9
  | 0, k, l, h => by cases h
  | f + 1, k, l, h => by
    unfold givenM at h
    split at h
    · injection h with h
      rw [← h]
      intro u m x
      cases x
    · split at h
      · obtain ⟨y, e, rfl⟩ := map_ok h
        intro u m x
        rcases List.mem_cons.mp x with r | r
        · cases r
        · exact givenM_ok f _ y e u m r
      · split at h
        · cases h
        · rename_i u1 m1 k1 e1
          have o := decG_okD gmost e1
          split at h
          · cases h
          · obtain ⟨y, e, rfl⟩ := map_ok h
            intro u m x
            rcases List.mem_cons.mp x with r | r
            · cases r
              exact ⟨Nat.lt_of_lt_of_le o.1 (Nat.pow_le_pow_right (by decide) (by have := o.2; show GIVEN + m1 ≤ 49; unfold GIVEN; dsimp only at this; omega)), o.2⟩
            · exact givenM_ok f _ y e u m r
theorem givenM_len {ns : List Int} : ∀ (f k : Nat) (l : List (Option (Int × Nat))), givenM ns f k = .ok l → l.length ≤ f
  | 0, k, l, h => by cases h
  | f + 1, k, l, h => by
    unfold givenM at h
    split at h
    · injection h with h
      rw [← h]
      exact Nat.zero_le _
    · split at h
      · obtain ⟨y, e, rfl⟩ := map_ok h
        exact Nat.succ_le_succ (givenM_len f _ y e)
      · split at h
        · cases h
        · split at h
          · cases h
          · obtain ⟨y, e, rfl⟩ := map_ok h
            exact Nat.succ_le_succ (givenM_len f _ y e)
/-! the number, times 10^9 -/
def FG (t : List Nat) (k w : Nat) : Nat := (List.range k).foldl (fun (s i : Nat) => 10 * s + t.getD i 0) w
theorem FG_succ (t : List Nat) (k w : Nat) : FG t (k + 1) w = 10 * FG t k w + t.getD k 0 := by
  unfold FG
  rw [List.range_succ, List.foldl_append]
  rfl
theorem FG_from (t : List Nat) (w : Nat) : ∀ k, FG t k w = w * 10 ^ k + FG t k 0
  | 0 => by show w = w * 1 + 0; omega
  | k + 1 => by
    rw [FG_succ, FG_succ, FG_from t w k, Nat.pow_succ, ← Nat.mul_assoc]
    omega
theorem FG_take (t : List Nat) (w : Nat) : ∀ k, k ≤ t.length → FG t k w = (t.take k).foldl dg w
  | 0, _ => rfl
  | k + 1, h => by
    have hk : k < t.length := h
    have e1 : t.getD k 0 = t[k] := by simp [List.getD, hk]
    rw [FG_succ, FG_take t w k (by omega), List.take_succ_eq_append_getElem hk, List.foldl_append, e1]
    show _ = dg _ _
    unfold dg
    omega
theorem FG_more (t : List Nat) (w : Nat) : ∀ j, FG t (t.length + j) w = t.foldl dg w * 10 ^ j
  | 0 => by
    show FG t t.length w = _ * 1
    rw [FG_take t w _ (Nat.le_refl _), List.take_length, Nat.mul_one]
  | j + 1 => by
    have e1 : t.getD (t.length + j) 0 = 0 := by simp [List.getD]
    have e2 : t.foldl dg w * 10 ^ (j + 1) = t.foldl dg w * 10 ^ j * 10 := by rw [Nat.pow_succ, Nat.mul_assoc]
    rw [← Nat.add_assoc, FG_succ, FG_more t w j, e1, e2]
    omega
theorem scaled_eqP (d : Dec) (h : d.tail.length ≤ 9) : d.scaled = (decOf d).1 * ((10 ^ (9 - (decOf d).2) : Nat) : Int) := by
  have e : d.whole * BILLION + (List.range 9).foldl (fun (s i : Nat) => 10 * s + d.tail.getD i 0) 0 = d.tail.foldl dg d.whole * 10 ^ (9 - d.tail.length) := by
    have e1 := FG_from d.tail d.whole 9
    have e2 := FG_more d.tail d.whole (9 - d.tail.length)
    rw [show d.tail.length + (9 - d.tail.length) = 9 by omega] at e2
    rw [← e2, e1]
    rfl
  unfold Dec.scaled decOf signed
  dsimp only
  rw [e]
  split
  · rw [Int.natCast_mul, Int.neg_mul]
  · rw [Int.natCast_mul]
/-- an answer hits: its units, times the unit of the places, are the right ones times its own scale -/
theorem hits_eq (d : Dec) (z : Int) (p : Nat) (h : (decOf d).2 ≤ 9) : hits d z p = decide ((decOf d).1 * ((10 ^ p : Nat) : Int) = z * ((10 ^ (decOf d).2 : Nat) : Int)) := by
  unfold hits
  rw [scaled_eqP d h]
  have ep : (10 : Int) ^ p = ((10 ^ p : Nat) : Int) := by rw [Int.natCast_pow]; rfl
  have t : ((10 ^ (decOf d).2 : Nat) : Int) * ((10 ^ (9 - (decOf d).2) : Nat) : Int) = 10 ^ 9 := by
    rw [← Int.natCast_mul, ← Nat.pow_add, show (decOf d).2 + (9 - (decOf d).2) = 9 by omega]
    rfl
  rw [ep, ← t]
  have pos : ((10 ^ (9 - (decOf d).2) : Nat) : Int) ≠ 0 := by
    have : 0 < 10 ^ (9 - (decOf d).2) := Nat.pow_pos (by decide)
    omega
  generalize ((10 ^ (9 - (decOf d).2) : Nat) : Int) = e at pos
  generalize ((10 ^ (decOf d).2 : Nat) : Int) = f
  generalize ((10 ^ p : Nat) : Int) = P
  rw [Bool.eq_iff_iff, beq_iff_eq, decide_eq_true_eq]
  have a1 : (decOf d).1 * e * P = (decOf d).1 * P * e := by rw [Int.mul_assoc, Int.mul_comm e P, ← Int.mul_assoc]
  rw [a1, ← Int.mul_assoc]
  constructor
  · intro q; exact Int.eq_of_mul_eq_mul_right pos q
  · intro q; rw [q]
end Ab

set_option Elab.async false
set_option linter.all false
set_option maxRecDepth 100000
set_option maxHeartbeats 2000000
namespace Ab
open PySem PySem.Spec PyProof.Rows L2
def af (s : Int) (l : Addr) : List (Str × V) := [("seconds", .int s), ("numbers", .ref l)]
theorem af_seconds (s : Int) (l : Addr) : (af s l).lookup ("seconds" : Str) = some (.int s) := rfl
theorem af_numbers (s : Int) (l : Addr) : (af s l).lookup ("numbers" : Str) = some (.ref l) := rfl
/-! ### one answer -/
def numM (ns : List Int) (k : Nat) : Except Nat (Option (Int × Nat) × Nat) :=
  if pk ns k = 45 ∧ pk ns (k + 1) = 10 then .ok (none, k + 1) else (decG ns GMOST true false k).map fun x => (some (x.1, x.2.1), x.2.2)
theorem exW_is {ns : List Int} {c k k' : Nat} (h : exW ns [c] k = .ok k') : k' = k + 1 ∧ pk ns k = (c : Int) := by
  unfold exW at h
  split at h
  · rename_i e
    injection h with h
    exact ⟨h.symm, e⟩
  · cases h
theorem givenM_end {ns : List Int} {f : Nat} : givenM ns (f + 1) ns.length = .ok [] := by
  show (if _ then _ else _) = _
  rw [if_pos rfl]
theorem givenM_er {ns : List Int} {f k p : Nat} (h : k ≠ ns.length) (e : numM ns k = .error p) : givenM ns (f + 1) k = .error p := by
  show (if _ then _ else _) = _
  rw [if_neg h]
  unfold numM at e
  by_cases c : pk ns k = 45 ∧ pk ns (k + 1) = 10
  · rw [if_pos c] at e; cases e
  · rw [if_neg c] at e
    rw [if_neg c]
    cases hd : decG ns GMOST true false k with
    | error q => rw [hd] at e; cases e; rfl
    | ok x => rw [hd] at e; cases e
theorem givenM_er2 {ns : List Int} {f k k1 p : Nat} {o : Option (Int × Nat)} (h : k ≠ ns.length) (e : numM ns k = .ok (o, k1)) (e2 : exW ns [10] k1 = .error p) : givenM ns (f + 1) k = .error p := by
  show (if _ then _ else _) = _
  rw [if_neg h]
  unfold numM at e
  by_cases c : pk ns k = 45 ∧ pk ns (k + 1) = 10
  · rw [if_pos c] at e
    injection e with e
    injection e with e0 e1
    subst e1
    have : exW ns [10] (k + 1) = .ok (k + 1 + 1) := by
      show (if pk ns (k + 1) = ((10 : Nat) : Int) then _ else _) = _
      rw [if_pos (show pk ns (k + 1) = ((10 : Nat) : Int) from c.2)]
      rfl
    rw [this] at e2
    cases e2
  · rw [if_neg c] at e
    rw [if_neg c]
    cases hd : decG ns GMOST true false k with
    | error q => rw [hd] at e; cases e
    | ok x =>
      obtain ⟨u, m, k'⟩ := x
      rw [hd] at e
      injection e with e
      injection e with e0 e1
      dsimp only at e1 ⊢
      subst e1
      rw [e2]
theorem givenM_go {ns : List Int} {f k k1 k2 : Nat} {o : Option (Int × Nat)} (h : k ≠ ns.length) (e : numM ns k = .ok (o, k1)) (e2 : exW ns [10] k1 = .ok k2) : givenM ns (f + 1) k = (givenM ns f k2).map fun l => o :: l := by
  show (if _ then _ else _) = _
  rw [if_neg h]
  unfold numM at e
  by_cases c : pk ns k = 45 ∧ pk ns (k + 1) = 10
  · rw [if_pos c] at e
    rw [if_pos c]
    injection e with e
    injection e with e0 e1
    subst e0 e1
    rw [(exW_is e2).1]
  · rw [if_neg c] at e
    rw [if_neg c]
    cases hd : decG ns GMOST true false k with
    | error q => rw [hd] at e; cases e
    | ok x =>
      obtain ⟨u, m, k'⟩ := x
      rw [hd] at e
      injection e with e
      injection e with e0 e1
      dsimp only at e0 e1 ⊢
      subst e0 e1
      rw [e2]
theorem numM_ge {ns : List Int} {k : Nat} {x : Option (Int × Nat) × Nat} (h : numM ns k = .ok x) : k ≤ x.2 := by
  unfold numM at h
  split at h
  · injection h with h
    rw [← h]
    exact Nat.le_succ k
  · obtain ⟨y, e, rfl⟩ := map_ok h
    exact decM_ge e
/-- an answer: None, or a Decimal -/
def OptAt (a : Ad) (r : Addr) (H : Hp) : V → Option (Int × Nat) → Prop
  | v, none => v = .non
  | v, some d => ∃ q, v = .ref q ∧ q ≠ r ∧ DcAt a H q d.1 ((10 ^ d.2 : Nat) : Int)
def OptsAt (a : Ad) (r : Addr) (H : Hp) : List V → List (Option (Int × Nat)) → Prop
  | [], [] => True
  | v :: vs, o :: os => OptAt a r H v o ∧ OptsAt a r H vs os
  | _, _ => False
theorem OptAt.mono {a : Ad} {r : Addr} {H H' : Hp} (h : ∀ q u s, q ≠ r → DcAt a H q u s → DcAt a H' q u s) {v : V} : ∀ {o : Option (Int × Nat)}, OptAt a r H v o → OptAt a r H' v o
  | none, e => e
  | some _, ⟨q, e, n, d⟩ => ⟨q, e, n, h _ _ _ n d⟩
theorem OptsAt.mono {a : Ad} {r : Addr} {H H' : Hp} (h : ∀ q u s, q ≠ r → DcAt a H q u s → DcAt a H' q u s) : ∀ {vs : List V} {os : List (Option (Int × Nat))}, OptsAt a r H vs os → OptsAt a r H' vs os
  | [], [], _ => True.intro
  | _ :: _, _ :: _, y => ⟨y.1.mono h, OptsAt.mono h y.2⟩
  | [], _ :: _, y => y.elim
  | _ :: _, [], y => y.elim
theorem OptsAt.snoc {a : Ad} {r : Addr} {H : Hp} {v : V} {o : Option (Int × Nat)} (h : OptAt a r H v o) : ∀ {vs : List V} {os : List (Option (Int × Nat))}, OptsAt a r H vs os → OptsAt a r H (vs ++ [v]) (os ++ [o])
  | [], [], _ => ⟨h, True.intro⟩
  | _ :: _, _ :: _, y => ⟨y.1, OptsAt.snoc h y.2⟩
  | [], _ :: _, y => y.elim
  | _ :: _, [], y => y.elim
theorem OptsAt.len {a : Ad} {r : Addr} {H : Hp} : ∀ {vs : List V} {os : List (Option (Int × Nat))}, OptsAt a r H vs os → vs.length = os.length
  | [], [], _ => rfl
  | _ :: _, _ :: _, y => by rw [List.length_cons, List.length_cons, OptsAt.len y.2]
  | [], _ :: _, y => y.elim
  | _ :: _, [], y => y.elim
theorem OptsAt.at {a : Ad} {r : Addr} {H : Hp} : ∀ {vs : List V} {os : List (Option (Int × Nat))} {i : Nat} {v : V}, OptsAt a r H vs os → vs[i]? = some v → ∃ o, os[i]? = some o ∧ OptAt a r H v o
  | v :: vs, o :: os, 0, v', y, e => by
    have e : some v = some v' := e
    cases e
    exact ⟨o, rfl, y.1⟩
  | v :: vs, o :: os, i + 1, v', y, e => OptsAt.at (vs := vs) (os := os) (i := i) y.2 e
  | [], [], _, _, _, e => by cases e
  | [], _ :: _, _, _, y, _ => y.elim
  | _ :: _, [], _, _, y, _ => y.elim
theorem dc_keep {a : Ad} {r : Addr} {H H' : Hp} (k : Keep r H H') : ∀ (q : Addr) (u s : Int), q ≠ r → DcAt a H q u s → DcAt a H' q u s := fun _ _ _ n ⟨dx, e⟩ => ⟨dx, k _ _ e n⟩
theorem dc_putl {a : Ad} {r l : Addr} {H H' : Hp} {xs : List V} (hl : H l = some (.lst xs)) (k : Keep l H H') : ∀ (q : Addr) (u s : Int), q ≠ r → DcAt a H q u s → DcAt a H' q u s := fun _ _ _ _ ⟨dx, e⟩ => ⟨dx, k _ _ e (ne_of e hl (by intro z; cases z))⟩
theorem dc_same {a : Ad} {r : Addr} {H H' : Hp} (k : Same H H') : ∀ (q : Addr) (u s : Int), q ≠ r → DcAt a H q u s → DcAt a H' q u s := fun _ _ _ _ ⟨dx, e⟩ => ⟨dx, k _ _ e⟩
def spAn (a : Ad) : Sp := fun vs H Q _ => ∃ (p dx l : Addr) (n : Int), vs = [.ref p, .int n, .ref l] ∧ H p = some (.ins a.cAn dx []) ∧ ∀ H' : Hp, (∃ dx, H' p = some (.ins a.cAn dx (af n l))) → Keep p H H' → Q .non H'
def spNum (K : PySem.W.Frag) (a : Ad) : Sp := fun vs H Q E => ∃ r t ns rule k, vs = [.ref r] ∧ RdAt K a H r t ns rule k ∧
  Res (numM ns k) (fun x => ∀ (H' : Hp) (v : V), RdAt K a H' r t ns rule x.2 → OptAt a r H' v x.1 → Keep r H H' → Q v H') (Thr a E rule)
/-- the answers that are handed in stand at p -/
structure AnAt (a : Ad) (H : Hp) (p : Addr) (x : Nat × List (Option (Int × Nat))) : Prop where
  ex : ∃ dx l r vs, H p = some (.ins a.cAn dx (af (x.1 : Int) l)) ∧ H l = some (.lst vs) ∧ OptsAt a r H vs x.2
def spAnR (K : PySem.W.Frag) (a : Ad) : Sp := fun vs H Q E => ∃ t ns, vs = [.ref t] ∧ SqL K H t (ns.map V.int) ∧ ns.length ≤ 16500 ∧ Res (answersM ns) (fun x => ∀ (H' : Hp) (p : Addr), AnAt a H' p x → Same H H' → Q (.ref p) H') (Thr a E 13)
section
variable {P : Program} {w : World} {K : PySem.W.Frag} {mg : Str → Option Value} {base : Heap} {a : Ad}
theorem sc_initAn : FnScope ["self", "seconds", "numbers"] ["self", "seconds", "numbers"] (defScope s_initAn) := ⟨rfl, rfl, rfl, by decide +kernel, rfl, by decide +kernel, by decide +kernel⟩
theorem ok_initAn (T : Tx K mg a) : Good P w K mg base CX0 1 a.f_initAn ["self", "seconds", "numbers"] (spAn a) := by
  obtain ⟨fd, F, b⟩ := T.initAn.ex
  refine ⟨fd, F.ok sc_initAn (fun vs H Q E h => ?_) (fun cdv A outer s H vs Q E hr h => ?_), b, F.kp⟩
  · obtain ⟨p, dx, l, n, rfl, _⟩ := h; rfl
  · obtain ⟨p, dx, l, n, rfl, hp, k⟩ := h
    refine ⟨_, pss_cons (ps_fld (pv 0) (pv 1) rfl) (pss_one (ps_fld (pv 0) (pv 2) rfl)), ?_⟩
    refine ⟨_, rfl, _, rfl, p, a.cAn, dx, [], rfl, hp, T.pAn.cl, T.pAn.no _ (by simp), (by show 0 < 1000; decide), ?_⟩
    refine ⟨_, rfl, _, rfl, p, a.cAn, dx, _, rfl, upd_same, T.pAn.cl, T.pAn.no _ (by simp), (by show 1 < 1000; decide), ?_⟩
    exact k _ ⟨dx, upd_same⟩ (Keep.trans (Keep.upd _ _ _) (Keep.upd _ _ _))
theorem sc_readNumber : FnScope ["reader"] ["reader"] (defScope s_readNumber) := ⟨rfl, rfl, rfl, by decide +kernel, rfl, by decide +kernel, by decide +kernel⟩
theorem ok_readNumber (T : Tx K mg a) : Good P w K mg base (CXE P w) 6 a.f_readNumber ["reader"] (spNum K a) := by
  obtain ⟨fd, F, b⟩ := T.readNumber.ex
  obtain ⟨fd1, G1, b1, kp1⟩ := ok_skip (P := P) (w := w) (base := base) T
  obtain ⟨fd2, G2, b2, kp2⟩ := ok_readUnsigned (P := P) (w := w) (base := base) T
  obtain ⟨fd3, G3, b3, kp3⟩ := ok_negated (P := P) (w := w) (base := base) T
  obtain ⟨fd4, G4, b4, kp4⟩ := ok_peek (P := P) (w := w) (base := base) T
  obtain ⟨t1, hM⟩ := T.k_MINUS
  obtain ⟨t2, hW⟩ := T.k_MOST_ANSWER
  obtain ⟨t3, hL⟩ := T.k_LINE_FEED
  obtain ⟨big, hbig⟩ : ∃ big : Int, big = 9999999999999999999999999999999999999999 := ⟨_, rfl⟩
  rw [← hbig] at hW
  have eb : V.int big = V.int ((GMOST : Nat) : Int) := by rw [hbig]; rfl
  refine ⟨fd, F.okX sc_readNumber (fun vs H Q E h => ?_) (fun cdv A outer s H vs Q E hr h => ?_), b, F.kp⟩
  · obtain ⟨r, t, ns, rule, k, rfl, _⟩ := h; rfl
  · obtain ⟨r, t, ns, rule, k, rfl, R, res⟩ := h
    have hr3 : Room 3 (A.deeper (envOfC "read_number" (defScope s_readNumber) s.heap.objs.size a.f_readNumber cdv)) := hr.mono (by decide)
    have hr2 : Room 2 (A.deeper (envOfC "read_number" (defScope s_readNumber) s.heap.objs.size a.f_readNumber cdv)) := hr.mono (by decide)
    refine ⟨_, pss_cons (ps_if (pt_not (pt_val (pe_meth (pv 0) T.pRd.cl T.m_skip G1 hr3 b1 .nil pass0 (pa_cons (pe_glob (v := .int 45) (by rfl) hM ⟨_, rfl⟩) pa_nil))))
        (pss_one (ps_ret (pe_meth (pv 0) T.pRd.cl T.m_readUnsigned G2 hr b2 .nil passX (pa_cons (pe_glob (v := .int big) (by rfl) hW ⟨_, rfl⟩) (pa_cons pe_bl pa_nil))))) pss_nil)
      (pss_cons (ps_if (pt_cmpR op_eq (pe_meth0 (pv 0) T.pRd.cl T.m_peek G4 hr2 b4 .nil pass0) (pe_glob (v := .int 10) (by rfl) hL ⟨_, rfl⟩) (nomark _)) (pss_one (ps_ret pe_non)) pss_nil)
      (pss_one (ps_ret (pe_meth0 (pe_meth (pv 0) T.pRd.cl T.m_readUnsigned G2 hr b2 .nil passX (pa_cons (pe_glob (v := .int big) (by rfl) hW ⟨_, rfl⟩) (pa_cons pe_bl pa_nil))) T.pDec.cl T.m_negated G3 hr3 b3 .nil pass0)))), ?_⟩
    obtain ⟨dx, hR⟩ := R.ins
    refine ⟨_, rfl, r, dx, _, rfl, hR, rf_no _ _ _ (by decide +kernel), r, t, ns, rule, k, 45, rfl, by decide, R, fun n => ?_, fun n H1 R1 k1 => ?_⟩
    · refine ⟨_, rfl, iteT ⟨_, rfl, r, dx, _, rfl, hR, rf_no _ _ _ (by decide +kernel), r, t, ns, rule, k, GMOST, true, by rw [eb]; rfl, by decide, R, ?_⟩⟩
      have e : numM ns k = (unsM ns GMOST false k).map fun x => (some ((x.1 : Int), x.2.1), x.2.2) := by
        unfold numM
        rw [if_neg fun y => n y.1, decG_uns, decide_eq_false n, if_neg (by decide)]
        cases unsM ns GMOST false k <;> rfl
      show Res (unsM ns GMOST false k) _ _
      cases hb : unsM ns GMOST false k with
      | error p => exact res.er_ (by rw [e, hb]; rfl)
      | ok x =>
        obtain ⟨u, m, k3⟩ := x
        intro H2 q R2 nq D2 kp2
        exact res.ok_ (v := (some ((u : Int), m), k3)) (by rw [e, hb]; rfl) H2 (.ref q) R2 ⟨q, rfl, Ne.symm (ne_of_none hR nq), D2⟩ kp2
    · refine ⟨_, rfl, iteF ?_⟩
      obtain ⟨dx1, hR1⟩ := R1.ins
      refine ⟨_, rfl, r, dx1, _, rfl, hR1, rf_no _ _ _ (by decide +kernel), r, t, ns, rule, k + 1, rfl, R1, rfl, _, rfl, ?_⟩
      by_cases c : pk ns (k + 1) = 10
      · rw [decide_eq_true (congrArg V.int c)]
        refine iteT ?_
        exact res.ok_ (v := (none, k + 1)) (by unfold numM; rw [if_pos ⟨n, c⟩]) H1 .non R1 rfl k1
      · rw [decide_eq_false fun y => c (V.int.inj y)]
        refine iteF ?_
        have e : numM ns k = (unsM ns GMOST true (k + 1)).map fun x => (some (-(x.1 : Int), x.2.1), x.2.2) := by
          unfold numM
          rw [if_neg fun y => c y.2, decG_uns, decide_eq_true n, if_pos (by decide)]
          cases unsM ns GMOST true (k + 1) <;> rfl
        refine ⟨_, rfl, r, dx1, _, rfl, hR1, rf_no _ _ _ (by decide +kernel), r, t, ns, rule, k + 1, GMOST, false, by rw [eb]; rfl, by decide, R1, ?_⟩
        show Res (unsM ns GMOST true (k + 1)) _ _
        cases hb : unsM ns GMOST true (k + 1) with
        | error p => exact res.er_ (by rw [e, hb]; rfl)
        | ok x =>
          obtain ⟨u, m, k3⟩ := x
          intro H2 q R2 nq D2 kp2
          obtain ⟨dq, hq⟩ := D2
          refine ⟨q, dq, _, rfl, hq, df_no _ _ (by decide +kernel), q, _, _, rfl, ⟨dq, hq⟩, fun H3 p np D3 s3 => ?_⟩
          obtain ⟨dx2, hR2⟩ := R2.ins
          have npr : p ≠ r := Ne.symm (ne_of_none hR2 np)
          exact res.ok_ (v := (some (-(u : Int), m), k3)) (by rw [e, hb]; rfl) H3 (.ref p) (R2.same s3) ⟨p, rfl, npr, D3⟩ ((k1.trans kp2).trans fun b o z _ => s3 b o z)
def AInv (K : PySem.W.Frag) (a : Ad) (H : Hp) (r t : Addr) (ns : List Int) (l : Addr) (sec k2 : Nat) (m : Nat) (σ : L2.St) (H' : Hp) : Prop :=
  ∃ (os : List (Option (Int × Nat))) (j : Nat) (vs : List V), m = ns.length - j ∧ os.length ≤ j ∧ σ = [some (.ref t), some (.ref r), some (.int (sec : Int)), some (.ref l)] ∧ Same H H' ∧ RdAt K a H' r t ns 13 j ∧ H' l = some (.lst vs) ∧ OptsAt a r H' vs os ∧
    givenM ns (ns.length + 1) k2 = (givenM ns (ns.length + 1 - os.length) j).map fun y => os ++ y
theorem sc_readAnswers : FnScope ["text", "reader", "seconds", "numbers"] ["text"] (defScope s_readAnswers) := ⟨rfl, rfl, rfl, by decide +kernel, rfl, by decide +kernel, by decide +kernel⟩
theorem exTime : ("time " : Str).cps.toList = timeC := by decide +kernel
theorem ok_readAnswers (T : Tx K mg a) : Good P w K mg base (CXE P w) 8 a.f_readAnswers ["text"] (spAnR K a) := by
  obtain ⟨fd, F, b⟩ := T.readAnswers.ex
  obtain ⟨fd1, G1, b1, kp1⟩ := ok_initRd (P := P) (w := w) (base := base) T
  obtain ⟨fd2, G2, b2, kp2⟩ := ok_isDone (P := P) (w := w) (base := base) T
  obtain ⟨fd3, G3, b3, kp3⟩ := ok_readNumber (P := P) (w := w) (base := base) T
  obtain ⟨fd4, G4, b4, kp4⟩ := ok_readWords (P := P) (w := w) (base := base) T
  obtain ⟨fd5, G5, b5, kp5⟩ := ok_readBounded (P := P) (w := w) (base := base) T
  obtain ⟨fd6, G6, b6, kp6⟩ := ok_initAn (P := P) (w := w) (base := base) T
  obtain ⟨t1, hS⟩ := T.k_ANSWERS_RULE
  obtain ⟨t2, hX⟩ := T.k_MOST_SECONDS
  obtain ⟨big, hbig⟩ : ∃ big : Int, big = 99999 := ⟨_, rfl⟩
  rw [← hbig] at hX
  have eb : V.int big = V.int ((99999 : Nat) : Int) := by rw [hbig]; rfl
  refine ⟨fd, F.okX sc_readAnswers (fun vs H Q E h => ?_) (fun cdv A outer s H vs Q E hr h => ?_), b, F.kp⟩
  · obtain ⟨t, ns, rfl, _⟩ := h; rfl
  · obtain ⟨t, ns, rfl, hT, hlen, res⟩ := h
    refine ⟨_, pss_cons (ps_set (i := 1) sc_readAnswers.nd rfl (Or.inl rfl) (pe_make T.pRd.mak G1 (hr.mono (by decide)) (by rfl) T.pRd.glo b1 .nil pass0 (pa_cons (pv 0) (pa_cons (pe_glob (v := .int 13) (by rfl) hS ⟨_, rfl⟩) pa_nil))))
      (pss_cons (ps_expr (pe_meth (pv 1) T.pRd.cl T.m_readWords G4 (hr.mono (by decide)) b4 .nil passX (pa_cons pe_str pa_nil)))
      (pss_cons (ps_set (i := 2) sc_readAnswers.nd rfl (Or.inl rfl) (pe_meth (pv 1) T.pRd.cl T.m_readBounded G5 (hr.mono (by decide)) b5 .nil passX (pa_cons pe_int (pa_cons (pe_glob (v := .int big) (by rfl) hX ⟨_, rfl⟩) pa_nil))))
      (pss_cons (ps_expr (pe_meth (pv 1) T.pRd.cl T.m_readWords G4 (hr.mono (by decide)) b4 .nil passX (pa_cons pe_str pa_nil)))
      (pss_cons (ps_set (i := 3) sc_readAnswers.nd rfl (Or.inl rfl) (pe_lst pa_nil))
      (pss_cons (ps_while ownX (pt_not (pt_val (pe_meth0 (pv 1) T.pRd.cl T.m_isDone G2 (hr.mono (by decide)) b2 .nil pass0)))
        (pss_cons (ps_expr (pe_bm PySem.F.plainAttrs_list PySem.F.slot_list_append PySem.F.type_list_append mt_append (pv 3) (pa_cons (pe_call G3 (hr.mono (by decide)) (by rfl) T.g_readNumber kp3 b3 .nil passX (pa_cons (pv 1) pa_nil)) pa_nil)))
        (pss_one (ps_expr (pe_meth (pv 1) T.pRd.cl T.m_readWords G4 (hr.mono (by decide)) b4 .nil passX (pa_cons pe_str pa_nil))))))
      (pss_one (ps_ret (pe_make T.pAn.mak G6 (hr.mono (by decide)) (by rfl) T.pAn.glo b6 .nil pass0 (pa_cons (pv 2) (pa_cons (pv 3) pa_nil)))))))))), ?_⟩
    refine ⟨_, rfl, ?_⟩
    intro r dr nr nd ne
    refine ⟨r, dr, t, 13, rfl, upd_same, fun H1 h1 k1 => ⟨rfl, ?_⟩⟩
    have s1 : Same H H1 := Same.made nr nd k1
    obtain ⟨dr1, hr1⟩ := h1
    have R1 : RdAt K a H1 r t ns 13 0 := ⟨⟨dr1, hr1⟩, s1.seq hT, Nat.zero_le _⟩
    have fresh : ∀ {H2 : Hp}, Keep r H1 H2 → Same H H2 := fun k2 b o z => k2 _ _ (s1 _ _ z) fun zr => by rw [zr, nr] at z; cases z
    refine ⟨_, rfl, r, dr1, _, rfl, hr1, rf_no _ _ _ (by decide +kernel), r, t, ns, 13, 0, "time ", rfl, R1, ?_⟩
    rw [exTime]
    cases hx : exW ns timeC 0 with
    | error p => exact res.er_ (by unfold answersM; rw [hx])
    | ok k =>
      intro H2 R2 kp2
      obtain ⟨dr2, hr2⟩ := R2.ins
      refine ⟨_, rfl, r, dr2, _, rfl, hr2, rf_no _ _ _ (by decide +kernel), r, t, ns, 13, k, 0, 99999, by rw [eb]; rfl, by decide, R2, ?_⟩
      cases hb : rb ns 0 99999 k with
      | error p => exact res.er_ (by unfold answersM; rw [hx]; dsimp only; rw [hb])
      | ok x =>
        obtain ⟨sec, k1'⟩ := x
        intro H3 R3 kp3
        obtain ⟨dr3, hr3⟩ := R3.ins
        refine ⟨_, rfl, r, dr3, _, rfl, hr3, rf_no _ _ _ (by decide +kernel), r, t, ns, 13, k1', "\n", rfl, R3, ?_⟩
        rw [ex10]
        cases hx2 : exW ns [10] k1' with
        | error p => exact res.er_ (by unfold answersM; rw [hx]; dsimp only; rw [hb]; dsimp only; rw [hx2])
        | ok k2 =>
          intro H4 R4 kp4
          have ean : answersM ns = (givenM ns (ns.length + 1) k2).map fun l => (sec, l) := by unfold answersM; rw [hx]; dsimp only; rw [hb]; dsimp only; rw [hx2]
          have s4 : Same H H4 := fresh ((kp2.trans kp3).trans kp4)
          obtain ⟨dr4, hr4⟩ := R4.ins
          refine ⟨Nat.zero_le _, fun l hl => ?_⟩
          have nlr : l ≠ r := Ne.symm (ne_of_none hr4 hl)
          have nl0 : H l = none := s4.free hl
          have dis := dis_of R4 hl
          have s5 : Same H4 (upd H4 l (.lst [])) := fun b o z => by rw [upd_ne (ne_of_none z hl)]; exact z
          refine ⟨AInv K a H r t ns l sec k2, ⟨_, [], k2, [], rfl, Nat.zero_le _, rfl, s4.trans s5, R4.same s5, upd_same, True.intro, ?_⟩, ?_⟩
          · show givenM ns (ns.length + 1) k2 = (givenM ns (ns.length + 1) k2).map fun y => [] ++ y
            cases givenM ns (ns.length + 1) k2 with
            | error p => rfl
            | ok x => rfl
          · rintro m σ H' ⟨os, j, vs, rfl, hoj, rfl, sm, R', hl', O', e⟩
            obtain ⟨dr', hR'⟩ := R'.ins
            have hj := R'.le
            refine ⟨_, rfl, r, dr', _, rfl, hR', rf_no _ _ _ (by decide +kernel), r, t, ns, 13, j, rfl, R', _, rfl, ?_⟩
            by_cases c : j = ns.length
            · rw [decide_eq_true c]
              have ef : ns.length + 1 - os.length = (ns.length - os.length) + 1 := by omega
              rw [ef, c, givenM_end] at e
              have e2 : answersM ns = .ok (sec, os) := by rw [ean, e]; show Except.ok (sec, os ++ []) = _; rw [List.append_nil]
              refine iteF ⟨_, rfl, _, rfl, ?_⟩
              intro p dp np ndp nep
              refine ⟨p, dp, l, _, rfl, upd_same, fun H5 h5 k5 => ⟨rfl, ?_⟩⟩
              have s5 : Same H' H5 := Same.made np ndp k5
              obtain ⟨dp5, hp5⟩ := h5
              exact res.ok_ e2 H5 p ⟨dp5, l, r, vs, hp5, s5 _ _ hl', O'.mono (dc_same s5)⟩ (sm.trans s5)
            · rw [decide_eq_false c]
              refine iteT ⟨fun σ' H2 => ∃ m', m' < ns.length - j ∧ AInv K a H r t ns l sec k2 m' σ' H2, fun _ _ y => y, ?_⟩
              have ef : ns.length + 1 - os.length = (ns.length - os.length) + 1 := by omega
              refine ⟨_, rfl, .inl ⟨rfl, _, SqL.of hl'⟩, _, rfl, r, t, ns, 13, j, rfl, R', ?_⟩
              cases hn : numM ns j with
              | error p => exact res.er_ (by rw [ean, e, ef, givenM_er c hn]; rfl)
              | ok y =>
                obtain ⟨o, j1⟩ := y
                have g := numM_ge hn
                dsimp only at g
                intro H6 v R6 o6 kp6
                have hl6 := kp6 _ _ hl' nlr
                have lv : vs.length = os.length := O'.len
                refine ⟨l, _, _, rfl, rfl, hl6, ?_, ?_⟩
                · rw [lv]
                  exact Nat.lt_of_le_of_lt (show os.length ≤ 16500 by omega) (by decide)
                have R7 := R6.offl dis hl6 (Keep.upd l H6 (.lst (vs ++ [v])))
                obtain ⟨dr7, hR7⟩ := R7.ins
                refine ⟨_, rfl, r, dr7, _, rfl, hR7, rf_no _ _ _ (by decide +kernel), r, t, ns, 13, j1, "\n", rfl, R7, ?_⟩
                rw [ex10]
                cases hx3 : exW ns [10] j1 with
                | error p => exact res.er_ (by rw [ean, e, ef, givenM_er2 c hn hx3]; rfl)
                | ok j2 =>
                  intro H8 R8 kp8
                  have ej : j2 = j1 + 1 := (exW_is hx3).1
                  have j2le := R8.le
                  refine ⟨ns.length - j2, by omega, os ++ [o], j2, vs ++ [v], rfl, by rw [List.length_append]; simp only [List.length_cons, List.length_nil]; omega, rfl, fun b ob z => ?_, R8, kp8 _ _ upd_same nlr, ?_, ?_⟩
                  · have zr : b ≠ r := fun zr => by rw [zr, nr] at z; cases z
                    refine kp8 _ _ ?_ zr
                    rw [upd_ne (ne_of_none z nl0)]
                    exact kp6 _ _ (sm _ _ z) zr
                  · refine OptsAt.mono (dc_keep kp8) (OptsAt.snoc (o6.mono (dc_putl hl6 (Keep.upd _ _ _))) ?_)
                    exact (O'.mono (dc_keep kp6)).mono (dc_putl hl6 (Keep.upd _ _ _))
                  · have el : ns.length + 1 - (os ++ [o]).length = ns.length - os.length := by rw [List.length_append]; simp only [List.length_cons, List.length_nil]; omega
                    rw [e, ef, givenM_go c hn hx3, el]
                    cases givenM ns (ns.length - os.length) j2 with
                    | error p => rfl
                    | ok y =>
                      show Except.ok (os ++ o :: y) = Except.ok ((os ++ [o]) ++ y)
                      rw [List.append_assoc]
                      rfl
end
end Ab

set_option Elab.async false
set_option linter.all false
set_option maxRecDepth 100000
set_option maxHeartbeats 2000000
namespace Ab
open PySem PySem.Spec PyProof.Rows L2
/-! ### great numbers -/
def Big (i : Int) : Prop := i.natAbs < 2 ^ 1000
theorem Big.log {i : Int} (h : Big i) : i.natAbs.log2 < 1000 := by
  by_cases z : i.natAbs = 0
  · rw [z]; decide +kernel
  · exact (Nat.log2_lt z).mpr h
theorem Big.bits {i : Int} (h : Big i) : Builtin.Int.intBits i ≤ 2 ^ 20 := by
  have := h.log
  unfold Builtin.Int.intBits
  split
  · exact Nat.zero_le _
  · omega
section
variable {X : Cx}
theorem op_mulB : OpR X (binaryOp .Mult) (rI (fun i j => Big i ∧ Big j) fun i j => .int (i * j)) := opI fun _ _ _ _ _ _ _ hc q => mul_int q (IntMulOk.of_bits hc.1.bits hc.2.bits)
theorem op_fdivB : OpR X (binaryOp .FloorDiv) (rI (fun _ j => 0 < j ∧ Big j) fun i j => .int (i / j)) := opI fun i j _ _ _ _ _ hc q => by
  have e : i / j = i.fdiv j := (Int.fdiv_eq_ediv_of_nonneg i (Int.le_of_lt hc.1)).symm
  rw [e] at q
  exact floordiv_int (by omega) q (.inl (PyProof.noPylong_of_log2 (Nat.lt_trans hc.2.log (by decide))))
end
def spTen : Sp := fun vs H Q _ => ∃ n : Nat, vs = [.int (n : Int)] ∧ n ≤ 9 ∧ Q (.int ((10 ^ n : Nat) : Int)) H
def spNear : Sp := fun vs H Q _ => ∃ t b : Int, vs = [.int t, .int b] ∧ t.natAbs < 2 ^ 900 ∧ b.natAbs < 2 ^ 900 ∧ b ≠ 0 ∧ Q (.int (NaCt.rounded t b)) H
def spWroot : Sp := fun vs H Q _ => ∃ n : Nat, vs = [.int (n : Int)] ∧ n < 2 ^ 900 ∧ ∀ r : Nat, r * r ≤ n → n < (r + 1) * (r + 1) → Q (.int (r : Int)) H
def spNroot : Sp := fun vs H Q _ => ∃ t b : Nat, vs = [.int (t : Int), .int (b : Int)] ∧ t < 2 ^ 800 ∧ 0 < b ∧ b < 2 ^ 800 ∧ ∀ r : Nat, r * r ≤ 4 * t / b → 4 * t / b < (r + 1) * (r + 1) → Q (.int (((r + 1) / 2 : Nat) : Int)) H
theorem mul_le_sq (a b c : Nat) (h : a + b ≤ 2 * c) : a * b ≤ c * c := by
  rcases Nat.le_total a b with z | z
  · obtain ⟨d, rfl⟩ := Nat.exists_eq_add_of_le z
    have h1 : a + (d + 1) / 2 ≤ c ∨ a + d / 2 ≤ c := by omega
    have h2 : a ≤ c := by omega
    obtain ⟨e, rfl⟩ := Nat.exists_eq_add_of_le h2
    have h3 : d ≤ 2 * e := by omega
    have : a * (a + d) ≤ a * (a + 2 * e) := Nat.mul_le_mul_left _ (by omega)
    have e1 : a * (a + 2 * e) = a * a + 2 * (a * e) := by rw [Nat.mul_add, ← Nat.mul_assoc, Nat.mul_comm a 2, Nat.mul_assoc]
    have e2 : (a + e) * (a + e) = a * a + 2 * (a * e) + e * e := by
      rw [Nat.mul_add, Nat.add_mul, Nat.add_mul, Nat.mul_comm e a]; omega
    omega
  · obtain ⟨d, rfl⟩ := Nat.exists_eq_add_of_le z
    have h2 : b ≤ c := by omega
    obtain ⟨e, rfl⟩ := Nat.exists_eq_add_of_le h2
    have h3 : d ≤ 2 * e := by omega
    have : (b + d) * b ≤ (b + 2 * e) * b := Nat.mul_le_mul_right _ (by omega)
    have e1 : (b + 2 * e) * b = b * b + 2 * (b * e) := by rw [Nat.add_mul, Nat.mul_assoc, Nat.mul_comm e b]
    have e2 : (b + e) * (b + e) = b * b + 2 * (b * e) + e * e := by
      rw [Nat.mul_add, Nat.add_mul, Nat.add_mul, Nat.mul_comm e b]; omega
    omega
/-- a step of the root from above -/
theorem newton (n x : Nat) (hx : 0 < x) : n < ((x + n / x) / 2 + 1) * ((x + n / x) / 2 + 1) := by
  have h1 : n < x * (n / x + 1) := by
    have := Nat.div_add_mod n x
    have h2 := Nat.mod_lt n hx
    rw [Nat.mul_add, Nat.mul_one]
    omega
  exact Nat.lt_of_lt_of_le h1 (mul_le_sq x (n / x + 1) ((x + n / x) / 2 + 1) (by omega))
section
variable {P : Program} {w : World} {K : PySem.W.Frag} {mg : Str → Option Value} {base : Heap} {a : Ad}
theorem sc_tenTo : FnScope ["count", "power", "step"] ["count"] (defScope s_tenTo) := ⟨rfl, rfl, rfl, by decide +kernel, rfl, by decide +kernel, by decide +kernel⟩
theorem ok_tenTo (T : Tx K mg a) : Good P w K mg base CX0 1 a.f_tenTo ["count"] spTen := by
  obtain ⟨fd, F, b⟩ := T.tenTo.ex
  refine ⟨fd, F.ok sc_tenTo (fun vs H Q E h => ?_) (fun cdv A outer s H vs Q E hr h => ?_), b, F.kp⟩
  · obtain ⟨n, rfl, _⟩ := h; rfl
  · obtain ⟨n, rfl, hn, q⟩ := h
    refine ⟨_, pss_cons (ps_set (i := 1) sc_tenTo.nd rfl (Or.inl rfl) pe_int)
      (pss_cons (ps_for PassesOwn.never rfl (pi_range1 rfl T.b_range (pa_cons (pv 0) pa_nil)) (pg_name (i := 2) sc_tenTo.nd rfl (Or.inl rfl)) (pss_one (ps_aug (i := 1) sc_tenTo.nd rfl (Or.inl rfl) pe_int iop_mul)))
      (pss_one (ps_ret (pv 1)))), ?_⟩
    refine ⟨_, rfl, (n : Int), rfl, by omega, by omega, ?_⟩
    have e : ((n : Int)).toNat = n := by omega
    rw [e]
    refine for_range (n := n) (fun i σ H' => H' = H ∧ ∃ g, σ = [some (.int (n : Int)), some (.int ((10 ^ i : Nat) : Int)), g]) ⟨rfl, _, rfl⟩ ?_ ?_
    · rintro i σ H' hi ⟨rfl, g, rfl⟩
      refine ⟨_, rfl, _, _, rfl, rfl, .inr (by constructor <;> decide), rfl, some (.int (0 + (i : Int))), ?_⟩
      have e2 : ((10 ^ (i + 1) : Nat) : Int) = ((10 ^ i : Nat) : Int) * 10 := by rw [Nat.pow_succ]; omega
      rw [e2]
      rfl
    · rintro σ H' ⟨rfl, g, rfl⟩
      exact ⟨_, rfl, q⟩
theorem abs_eq (t : Int) : (if t < 0 then -t else t) = (t.natAbs : Int) := by split <;> omega
theorem big_of {i : Int} {n : Nat} (h : i.natAbs < 2 ^ n) (hn : n ≤ 1000) : Big i := Nat.lt_of_lt_of_le h (Nat.pow_le_pow_right (by decide) hn)
theorem big2 : Big 2 := by unfold Big; exact Nat.lt_of_lt_of_le (show (2 : Int).natAbs < 2 ^ 2 by decide) (Nat.pow_le_pow_right (by decide) (by decide))
theorem big4 : Big 4 := by unfold Big; exact Nat.lt_of_lt_of_le (show (4 : Int).natAbs < 2 ^ 3 by decide) (Nat.pow_le_pow_right (by decide) (by decide))
theorem sc_nearest : FnScope ["top", "bottom", "size"] ["top", "bottom"] (defScope s_nearest) := ⟨rfl, rfl, rfl, by decide +kernel, rfl, by decide +kernel, by decide +kernel⟩
theorem ok_nearest (T : Tx K mg a) : Good P w K mg base CX0 1 a.f_nearest ["top", "bottom"] spNear := by
  obtain ⟨fd, F, b⟩ := T.nearest.ex
  refine ⟨fd, F.ok sc_nearest (fun vs H Q E h => ?_) (fun cdv A outer s H vs Q E hr h => ?_), b, F.kp⟩
  · obtain ⟨t, b, rfl, _⟩ := h; rfl
  · obtain ⟨t, d, rfl, ht, hd, hd0, q⟩ := h
    refine ⟨_, pss_cons (ps_set (i := 2) sc_nearest.nd rfl (Or.inl rfl) (pe_op op_fdivB (pe_op op_add (pe_op op_mulB pe_int (pe_callB call_abs (by rfl) T.b_abs PyProof.Rows.boot_abs (pa_cons (pv 0) pa_nil))) (pe_callB call_abs (by rfl) T.b_abs PyProof.Rows.boot_abs (pa_cons (pv 1) pa_nil))) (pe_op op_mulB pe_int (pe_callB call_abs (by rfl) T.b_abs PyProof.Rows.boot_abs (pa_cons (pv 1) pa_nil)))))
      (pss_cons (ps_if (pt_cmpR op_eq (pe_cmpR op_lt (pv 0) pe_int (nomark _)) (pe_cmpR op_lt (pv 1) pe_int (nomark _)) (nomark _)) (pss_one (ps_ret (pv 2))) pss_nil)
      (pss_one (ps_ret (pe_un un_neg (pv 2))))), ?_⟩
    refine ⟨_, rfl, t, rfl, _, _, rfl, rfl, ⟨big2, ?_⟩, ?_⟩
    · rw [abs_eq]; exact big_of (i := ((t.natAbs : Nat) : Int)) (by rw [Int.natAbs_natCast]; exact ht) (by decide)
    refine ⟨_, rfl, d, rfl, _, _, rfl, rfl, ?_⟩
    refine ⟨_, rfl, d, rfl, _, _, rfl, rfl, ⟨big2, ?_⟩, ?_⟩
    · rw [abs_eq]; exact big_of (i := ((d.natAbs : Nat) : Int)) (by rw [Int.natAbs_natCast]; exact hd) (by decide)
    refine ⟨_, _, rfl, rfl, ⟨?_, ?_⟩, ?_⟩
    · rw [abs_eq]; omega
    · rw [abs_eq]
      refine big_of (n := 901) ?_ (by decide)
      have : (2 * ((d.natAbs : Nat) : Int)).natAbs = 2 * d.natAbs := by omega
      rw [this, Nat.pow_succ]
      omega
    have eq : (2 * (if t < 0 then -t else t) + (if d < 0 then -d else d)) / (2 * (if d < 0 then -d else d)) = (((2 * t.natAbs + d.natAbs) / (2 * d.natAbs) : Nat) : Int) := by
      rw [abs_eq, abs_eq, Int.natCast_ediv]
      rfl
    refine ⟨_, rfl, _, _, rfl, rfl, _, rfl, _, _, rfl, rfl, rfl, _, rfl, ?_⟩
    by_cases c : (t < 0) = (d < 0)
    · have er : NaCt.rounded t d = (((2 * t.natAbs + d.natAbs) / (2 * d.natAbs) : Nat) : Int) := by
        unfold NaCt.rounded
        dsimp only
        rw [if_pos c]
      rw [decide_eq_true (congrArg V.bl (by rw [decide_eq_decide]; exact Iff.of_eq c : decide (t < 0) = decide (d < 0)))]
      refine iteT ⟨_, rfl, ?_⟩
      rw [er, ← eq] at q
      exact q
    · have er : NaCt.rounded t d = -(((2 * t.natAbs + d.natAbs) / (2 * d.natAbs) : Nat) : Int) := by
        unfold NaCt.rounded
        dsimp only
        rw [if_neg c]
      rw [decide_eq_false fun y => c (propext (decide_eq_decide.mp (V.bl.inj y)))]
      refine iteF ⟨_, rfl, _, rfl, ?_⟩
      rw [er, ← eq] at q
      exact q
theorem sc_wholeRoot : FnScope ["number", "root", "nearer"] ["number"] (defScope s_wholeRoot) := ⟨rfl, rfl, rfl, by decide +kernel, rfl, by decide +kernel, by decide +kernel⟩
theorem ok_wholeRoot (T : Tx K mg a) : Good P w K mg base CX0 1 a.f_wholeRoot ["number"] spWroot := by
  obtain ⟨fd, F, b⟩ := T.wholeRoot.ex
  refine ⟨fd, F.ok sc_wholeRoot (fun vs H Q E h => ?_) (fun cdv A outer s H vs Q E hr h => ?_), b, F.kp⟩
  · obtain ⟨n, rfl, _⟩ := h; rfl
  · obtain ⟨n, rfl, hn, q⟩ := h
    refine ⟨_, pss_cons (ps_if (pt_cmpR op_eq (pv 0) pe_int (nomark _)) (pss_one (ps_ret pe_int)) pss_nil)
      (pss_cons (ps_set (i := 1) sc_wholeRoot.nd rfl (Or.inl rfl) (pv 0))
      (pss_cons (ps_set (i := 2) sc_wholeRoot.nd rfl (Or.inl rfl) (pe_op op_fdiv (pe_op op_add (pv 1) (pe_op op_fdivB (pv 0) (pv 1))) pe_int))
      (pss_cons (ps_while PassesOwn.never (pt_cmpR op_lt (pv 2) (pv 1) (nomark _))
        (pss_cons (ps_set (i := 1) sc_wholeRoot.nd rfl (Or.inl rfl) (pv 2)) (pss_one (ps_set (i := 2) sc_wholeRoot.nd rfl (Or.inl rfl) (pe_op op_fdiv (pe_op op_add (pv 1) (pe_op op_fdivB (pv 0) (pv 1))) pe_int)))))
      (pss_one (ps_ret (pv 1)))))), ?_⟩
    refine ⟨_, rfl, rfl, _, rfl, ?_⟩
    by_cases h0 : n = 0
    · rw [decide_eq_true (congrArg V.int (show (n : Int) = 0 by omega))]
      refine iteT ?_
      subst h0
      exact q 0 (by decide) (by decide)
    · rw [decide_eq_false fun y => h0 (by have z := V.int.inj y; omega)]
      have step : ∀ x : Nat, ((x : Int) + (n : Int) / (x : Int)) / 2 = (((x + n / x) / 2 : Nat) : Int) := fun x => by
        rw [Int.natCast_ediv, Int.natCast_add, Int.natCast_ediv]
        rfl
      refine iteF ⟨_, rfl, ?_⟩
      refine ⟨_, rfl, _, rfl, _, rfl, _, _, rfl, rfl, ⟨by omega, big_of (n := 900) (by rw [Int.natAbs_natCast]; exact hn) (by decide)⟩, _, _, rfl, rfl, _, _, rfl, rfl, ⟨by decide, by decide⟩, ?_⟩
      refine ⟨fun m σ H' => ∃ x : Nat, m = x ∧ H' = H ∧ 0 < x ∧ x ≤ n ∧ n < (x + 1) * (x + 1) ∧ σ = [some (.int (n : Int)), some (.int (x : Int)), some (.int (((x + n / x) / 2 : Nat) : Int))], ⟨n, n, rfl, rfl, by omega, Nat.le_refl _, ?_, ?_⟩, ?_⟩
      · have : n * 1 ≤ (n + 1) * n := by rw [Nat.mul_comm]; exact Nat.mul_le_mul_right _ (by omega)
        rw [Nat.mul_add]
        omega
      · rw [← step]; rfl
      · rintro m σ H' ⟨x, hm, rfl, hx, hxn, hlt, rfl⟩
        refine ⟨_, rfl, _, rfl, _, _, rfl, rfl, _, rfl, ?_⟩
        by_cases c : (x + n / x) / 2 < x
        · rw [decide_eq_true (show ((((x + n / x) / 2 : Nat) : Int)) < (x : Int) by omega)]
          have hy : 0 < (x + n / x) / 2 := by
            have : 2 ≤ x + n / x := by
              rcases Nat.lt_or_ge n x with z | z
              · omega
              · have := Nat.div_pos z hx
                omega
            omega
          refine iteT ⟨fun σ' H2 => ∃ m', m' < m ∧ ∃ y : Nat, m' = y ∧ H2 = H' ∧ 0 < y ∧ y ≤ n ∧ n < (y + 1) * (y + 1) ∧ σ' = [some (.int (n : Int)), some (.int (y : Int)), some (.int (((y + n / y) / 2 : Nat) : Int))], fun _ _ y => y, ?_⟩
          refine ⟨_, rfl, ?_⟩
          refine ⟨_, rfl, _, rfl, _, rfl, _, _, rfl, rfl, ⟨by omega, big_of (n := 900) (by rw [Int.natAbs_natCast]; omega) (by decide)⟩, _, _, rfl, rfl, _, _, rfl, rfl, ⟨by decide, by decide⟩, ?_⟩
          refine ⟨_, by rw [hm]; exact c, (x + n / x) / 2, rfl, rfl, hy, by omega, newton n x hx, ?_⟩
          rw [← step]
          rfl
        · rw [decide_eq_false (show ¬ ((((x + n / x) / 2 : Nat) : Int)) < (x : Int) by omega)]
          refine iteF ⟨_, rfl, q x ?_ hlt⟩
          have h1 : x ≤ n / x := by omega
          exact (Nat.le_div_iff_mul_le hx).mp h1
theorem sc_nearestRoot : FnScope ["top", "bottom"] ["top", "bottom"] (defScope s_nearestRoot) := ⟨rfl, rfl, rfl, by decide +kernel, rfl, by decide +kernel, by decide +kernel⟩
theorem ok_nearestRoot (T : Tx K mg a) : Good P w K mg base CX0 2 a.f_nearestRoot ["top", "bottom"] spNroot := by
  obtain ⟨fd, F, b⟩ := T.nearestRoot.ex
  obtain ⟨fd1, G1, b1, kp1⟩ := ok_wholeRoot (P := P) (w := w) (base := base) T
  refine ⟨fd, F.ok sc_nearestRoot (fun vs H Q E h => ?_) (fun cdv A outer s H vs Q E hr h => ?_), b, F.kp⟩
  · obtain ⟨t, d, rfl, _⟩ := h; rfl
  · obtain ⟨t, d, rfl, ht, hd0, hd, q⟩ := h
    refine ⟨_, pss_one (ps_ret (pe_op op_fdiv (pe_op op_add (pe_call G1 hr (by rfl) T.g_wholeRoot kp1 b1 .nil pass0 (pa_cons (pe_op op_fdivB (pe_op op_mulB pe_int (pv 0)) (pv 1)) pa_nil)) pe_int) pe_int)), ?_⟩
    refine ⟨_, rfl, _, _, rfl, rfl, ⟨big4, big_of (n := 800) (by rw [Int.natAbs_natCast]; exact ht) (by decide)⟩, _, rfl, _, _, rfl, rfl, ⟨by omega, big_of (n := 800) (by rw [Int.natAbs_natCast]; exact hd) (by decide)⟩, ?_⟩
    have e : (4 : Int) * (t : Int) / (d : Int) = ((4 * t / d : Nat) : Int) := by rw [Int.natCast_ediv]; rfl
    refine ⟨4 * t / d, by rw [← e]; rfl, ?_, fun r h1 h2 => ⟨_, _, rfl, rfl, _, _, rfl, rfl, ⟨by decide, by decide⟩, ?_⟩⟩
    · have h1 : 4 * t / d ≤ 4 * t := Nat.div_le_self _ _
      have h2 : 4 * t < 2 ^ 802 := by
        have : 2 ^ 802 = 4 * 2 ^ 800 := by rw [show 802 = 800 + 2 from rfl, Nat.pow_add]; omega
        omega
      exact Nat.lt_of_le_of_lt h1 (Nat.lt_of_lt_of_le h2 (Nat.pow_le_pow_right (by decide) (by decide)))
    · have z := q r h1 h2
      have e2 : (((r + 1) / 2 : Nat) : Int) = ((r : Int) + 1) / 2 := by rw [Int.natCast_ediv]; rfl
      rw [e2] at z
      exact z
end
end Ab

set_option Elab.async false
set_option linter.all false
set_option maxRecDepth 100000
set_option maxHeartbeats 2000000
namespace Ab
open PySem PySem.Spec PyProof.Rows L2
def spRP (a : Ad) : Sp := fun vs H Q _ => ∃ (q1 q2 : Addr) (u1 s1 u2 s2 c : Int), vs = [.ref q1, .ref q2, .int c] ∧ DcAt a H q1 u1 s1 ∧ DcAt a H q2 u2 s2 ∧ u1.natAbs < 2 ^ 100 ∧ u2.natAbs < 2 ^ 100 ∧ s1.natAbs < 2 ^ 100 ∧ s2.natAbs < 2 ^ 100 ∧ c.natAbs < 2 ^ 100 ∧ s1 ≠ 0 ∧ s2 ≠ 0 ∧ Q (.int (NaCt.rounded (u1 * u2 * c) (s1 * s2))) H
def spRQ (a : Ad) : Sp := fun vs H Q _ => ∃ (q1 q2 : Addr) (u1 s1 u2 s2 c : Int), vs = [.ref q1, .ref q2, .int c] ∧ DcAt a H q1 u1 s1 ∧ DcAt a H q2 u2 s2 ∧ u1.natAbs < 2 ^ 100 ∧ u2.natAbs < 2 ^ 100 ∧ s1.natAbs < 2 ^ 100 ∧ s2.natAbs < 2 ^ 100 ∧ c.natAbs < 2 ^ 100 ∧ s1 ≠ 0 ∧ u2 ≠ 0 ∧ Q (.int (NaCt.rounded (u1 * s2 * c) (s1 * u2))) H
def spRR (a : Ad) : Sp := fun vs H Q _ => ∃ (q : Addr) (u s c : Nat), vs = [.ref q, .int (c : Int)] ∧ DcAt a H q (u : Int) (s : Int) ∧ u < 2 ^ 100 ∧ s < 2 ^ 100 ∧ c < 2 ^ 100 ∧ 0 < s ∧ ∀ r : Nat, r * r ≤ 4 * (u * c * c) / s → 4 * (u * c * c) / s < (r + 1) * (r + 1) → Q (.int (((r + 1) / 2 : Nat) : Int)) H
theorem mul_lt {a b m n : Nat} (ha : a < 2 ^ m) (hb : b < 2 ^ n) : a * b < 2 ^ (m + n) := by
  rw [Nat.pow_add]
  rcases Nat.eq_zero_or_pos b with z | z
  · subst z
    rw [Nat.mul_zero]
    exact Nat.mul_pos (Nat.pow_pos (by decide)) (Nat.pow_pos (by decide))
  · exact Nat.lt_of_lt_of_le (Nat.mul_lt_mul_of_pos_right ha z) (Nat.mul_le_mul_left _ (Nat.le_of_lt hb))
theorem mulI_lt {a b : Int} {m n : Nat} (ha : a.natAbs < 2 ^ m) (hb : b.natAbs < 2 ^ n) : (a * b).natAbs < 2 ^ (m + n) := by
  rw [Int.natAbs_mul]
  exact mul_lt ha hb
theorem up {a m n : Nat} (h : a < 2 ^ m) (hm : m ≤ n) : a < 2 ^ n := Nat.lt_of_lt_of_le h (Nat.pow_le_pow_right (by decide) hm)
section
variable {P : Program} {w : World} {K : PySem.W.Frag} {mg : Str → Option Value} {base : Heap} {a : Ad}
theorem sc_rightProduct : FnScope ["first", "second", "unit"] ["first", "second", "unit"] (defScope s_rightProduct) := ⟨rfl, rfl, rfl, by decide +kernel, rfl, by decide +kernel, by decide +kernel⟩
theorem ok_rightProduct (T : Tx K mg a) : Good P w K mg base CX0 2 a.f_rightProduct ["first", "second", "unit"] (spRP a) := by
  obtain ⟨fd, F, b⟩ := T.rightProduct.ex
  obtain ⟨fd1, G1, b1, kp1⟩ := ok_nearest (P := P) (w := w) (base := base) T
  refine ⟨fd, F.ok sc_rightProduct (fun vs H Q E h => ?_) (fun cdv A outer s H vs Q E hr h => ?_), b, F.kp⟩
  · obtain ⟨q1, q2, u1, s1, u2, s2, c, rfl, _⟩ := h; rfl
  · obtain ⟨q1, q2, u1, s1, u2, s2, c, rfl, ⟨d1, h1⟩, ⟨d2, h2⟩, l1, l2, l3, l4, l5, n1, n2, q⟩ := h
    refine ⟨_, pss_one (ps_ret (pe_call G1 hr (by rfl) T.g_nearest kp1 b1 .nil pass0 (pa_cons (pe_op op_mulB (pe_op op_mulB (pe_fld (pv 0) rfl) (pe_fld (pv 1) rfl)) (pv 2)) (pa_cons (pe_op op_mulB (pe_fld (pv 0) rfl) (pe_fld (pv 1) rfl)) pa_nil)))), ?_⟩
    refine ⟨_, rfl, q1, a.cDec, d1, _, _, rfl, h1, T.pDec.cl, T.pDec.no _ (by simp), df_units _ _, ?_⟩
    refine ⟨_, rfl, q2, a.cDec, d2, _, _, rfl, h2, T.pDec.cl, T.pDec.no _ (by simp), df_units _ _, ?_⟩
    refine ⟨_, _, rfl, rfl, ⟨big_of l1 (by decide), big_of l2 (by decide)⟩, _, rfl, _, _, rfl, rfl, ⟨big_of (mulI_lt l1 l2) (by decide), big_of l5 (by decide)⟩, ?_⟩
    refine ⟨_, rfl, q1, a.cDec, d1, _, _, rfl, h1, T.pDec.cl, T.pDec.no _ (by simp), df_scale _ _, ?_⟩
    refine ⟨_, rfl, q2, a.cDec, d2, _, _, rfl, h2, T.pDec.cl, T.pDec.no _ (by simp), df_scale _ _, ?_⟩
    refine ⟨_, _, rfl, rfl, ⟨big_of l3 (by decide), big_of l4 (by decide)⟩, ?_⟩
    exact ⟨_, _, rfl, up (mulI_lt (mulI_lt l1 l2) l5) (by decide), up (mulI_lt l3 l4) (by decide), Int.mul_ne_zero n1 n2, q⟩
theorem sc_rightQuotient : FnScope ["first", "second", "unit"] ["first", "second", "unit"] (defScope s_rightQuotient) := ⟨rfl, rfl, rfl, by decide +kernel, rfl, by decide +kernel, by decide +kernel⟩
theorem ok_rightQuotient (T : Tx K mg a) : Good P w K mg base CX0 2 a.f_rightQuotient ["first", "second", "unit"] (spRQ a) := by
  obtain ⟨fd, F, b⟩ := T.rightQuotient.ex
  obtain ⟨fd1, G1, b1, kp1⟩ := ok_nearest (P := P) (w := w) (base := base) T
  refine ⟨fd, F.ok sc_rightQuotient (fun vs H Q E h => ?_) (fun cdv A outer s H vs Q E hr h => ?_), b, F.kp⟩
  · obtain ⟨q1, q2, u1, s1, u2, s2, c, rfl, _⟩ := h; rfl
  · obtain ⟨q1, q2, u1, s1, u2, s2, c, rfl, ⟨d1, h1⟩, ⟨d2, h2⟩, l1, l2, l3, l4, l5, n1, n2, q⟩ := h
    refine ⟨_, pss_one (ps_ret (pe_call G1 hr (by rfl) T.g_nearest kp1 b1 .nil pass0 (pa_cons (pe_op op_mulB (pe_op op_mulB (pe_fld (pv 0) rfl) (pe_fld (pv 1) rfl)) (pv 2)) (pa_cons (pe_op op_mulB (pe_fld (pv 0) rfl) (pe_fld (pv 1) rfl)) pa_nil)))), ?_⟩
    refine ⟨_, rfl, q1, a.cDec, d1, _, _, rfl, h1, T.pDec.cl, T.pDec.no _ (by simp), df_units _ _, ?_⟩
    refine ⟨_, rfl, q2, a.cDec, d2, _, _, rfl, h2, T.pDec.cl, T.pDec.no _ (by simp), df_scale _ _, ?_⟩
    refine ⟨_, _, rfl, rfl, ⟨big_of l1 (by decide), big_of l4 (by decide)⟩, _, rfl, _, _, rfl, rfl, ⟨big_of (mulI_lt l1 l4) (by decide), big_of l5 (by decide)⟩, ?_⟩
    refine ⟨_, rfl, q1, a.cDec, d1, _, _, rfl, h1, T.pDec.cl, T.pDec.no _ (by simp), df_scale _ _, ?_⟩
    refine ⟨_, rfl, q2, a.cDec, d2, _, _, rfl, h2, T.pDec.cl, T.pDec.no _ (by simp), df_units _ _, ?_⟩
    refine ⟨_, _, rfl, rfl, ⟨big_of l3 (by decide), big_of l2 (by decide)⟩, ?_⟩
    exact ⟨_, _, rfl, up (mulI_lt (mulI_lt l1 l4) l5) (by decide), up (mulI_lt l3 l2) (by decide), Int.mul_ne_zero n1 n2, q⟩
theorem sc_rightRoot : FnScope ["number", "unit"] ["number", "unit"] (defScope s_rightRoot) := ⟨rfl, rfl, rfl, by decide +kernel, rfl, by decide +kernel, by decide +kernel⟩
theorem ok_rightRoot (T : Tx K mg a) : Good P w K mg base CX0 3 a.f_rightRoot ["number", "unit"] (spRR a) := by
  obtain ⟨fd, F, b⟩ := T.rightRoot.ex
  obtain ⟨fd1, G1, b1, kp1⟩ := ok_nearestRoot (P := P) (w := w) (base := base) T
  refine ⟨fd, F.ok sc_rightRoot (fun vs H Q E h => ?_) (fun cdv A outer s H vs Q E hr h => ?_), b, F.kp⟩
  · obtain ⟨q, u, s, c, rfl, _⟩ := h; rfl
  · obtain ⟨q, u, s', c, rfl, ⟨d, h1⟩, l1, l2, l3, n1, k⟩ := h
    refine ⟨_, pss_one (ps_ret (pe_call G1 hr (by rfl) T.g_nearestRoot kp1 b1 .nil pass0 (pa_cons (pe_op op_mulB (pe_op op_mulB (pe_fld (pv 0) rfl) (pv 1)) (pv 1)) (pa_cons (pe_fld (pv 0) rfl) pa_nil)))), ?_⟩
    have m1 : ((u : Int)).natAbs < 2 ^ 100 := by rw [Int.natAbs_natCast]; exact l1
    have m3 : ((c : Int)).natAbs < 2 ^ 100 := by rw [Int.natAbs_natCast]; exact l3
    refine ⟨_, rfl, q, a.cDec, d, _, _, rfl, h1, T.pDec.cl, T.pDec.no _ (by simp), df_units _ _, ?_⟩
    refine ⟨_, rfl, _, _, rfl, rfl, ⟨big_of m1 (by decide), big_of m3 (by decide)⟩, _, rfl, _, _, rfl, rfl, ⟨big_of (mulI_lt m1 m3) (by decide), big_of m3 (by decide)⟩, ?_⟩
    refine ⟨_, rfl, q, a.cDec, d, _, _, rfl, h1, T.pDec.cl, T.pDec.no _ (by simp), df_scale _ _, ?_⟩
    have e : (u : Int) * (c : Int) * (c : Int) = ((u * c * c : Nat) : Int) := by rw [Int.natCast_mul, Int.natCast_mul]
    refine ⟨u * c * c, s', by rw [← e]; rfl, up (mul_lt (mul_lt l1 l3) l3) (by decide), n1, up l2 (by decide), k⟩
end
end Ab

set_option Elab.async false
set_option linter.all false
set_option maxRecDepth 100000
set_option maxHeartbeats 2000000
/-! Right answers, and how they are written: the program's and the specification's. -/
namespace Ab
open L2
def DOk (d : Int × Nat) : Prop := d.1.natAbs < 10 ^ 27 ∧ d.2 ≤ 9
def PMok (x : PM) : Prop := x.pl ≤ 9 ∧ match x.kd with
  | .sum => x.nums.length ≤ 64 ∧ ∀ d ∈ x.nums, d.1.natAbs < 10 ^ 18
  | .product => ∃ d1 d2, x.nums = [d1, d2] ∧ DOk d1 ∧ DOk d2
  | .quotient => ∃ d1 d2, x.nums = [d1, d2] ∧ DOk d1 ∧ DOk d2 ∧ d2.1 ≠ 0
  | .root => ∃ d, x.nums = [d] ∧ DOk d ∧ 0 ≤ d.1
theorem pd_le (ns : List Int) (k : Nat) : pd ns k ≤ 9 := by
  unfold pd
  split <;> omega
theorem tlM_ok {ns : List Int} {nn : Bool} : ∀ (f u m k : Nat), u < 10 ^ (18 + m) → m + f ≤ 9 → (tlM ns nn f u m k).1 < 10 ^ (18 + (tlM ns nn f u m k).2.1) ∧ (tlM ns nn f u m k).2.1 ≤ 9
  | 0, u, m, k, hu, hm => ⟨hu, hm⟩
  | f + 1, u, m, k, hu, hm => by
    unfold tlM
    split
    · refine tlM_ok f _ (m + 1) (k + 1) ?_ (by omega)
      have := pd_le ns k
      have e : 10 ^ (18 + (m + 1)) = 10 ^ (18 + m) * 10 := by rw [← Nat.add_assoc, Nat.pow_succ]
      rw [e]
      omega
    · exact ⟨hu, show m ≤ 9 by omega⟩
theorem signed_abs (b : Bool) (u : Nat) : (signed b u).natAbs = u := by
  unfold signed
  split <;> omega
theorem most_lt {ns : List Int} {lo k : Nat} {x : Nat × Nat} (h : rb ns lo MOST k = .ok x) : x.1 < 10 ^ 18 := by
  have := rb_le (show MOST < 10 ^ 45 by decide) h
  have e : MOST + 1 = 10 ^ 18 := by decide
  omega
theorem decM_ok {ns : List Int} {b s : Bool} {k : Nat} {x : Int × Nat × Nat} (h : decM ns b s k = .ok x) : DOk (x.1, x.2.1) ∧ (s = true → x.1 ≠ 0) ∧ (b = false → 0 ≤ x.1) := by
  unfold decM decG at h
  dsimp only at h
  have sg : ∀ u : Nat, b = false → 0 ≤ signed (b && decide (pk ns k = 45)) u := fun u hb => by
    subst hb
    unfold signed
    rw [if_neg (by rw [Bool.false_and]; decide)]
    omega
  split at h
  · cases h
  · rename_i v k2 e
    have g := most_lt e
    dsimp only at g
    split at h
    · split at h
      · cases h
      · rename_i u m k3 e2
        unfold tailM at e2
        dsimp only at e2
        split at e2
        · cases e2
        · injection e2 with e2
          have t := tlM_ok (ns := ns) (nn := (b && decide (pk ns k = 45)) || s) 9 v 0 (k2 + 1) g (by decide)
          rw [e2] at t
          split at h
          · cases h
          · rename_i c
            injection h with h
            rw [← h]
            refine ⟨⟨?_, t.2⟩, ?_, sg u⟩
            · rw [signed_abs]
              exact Nat.lt_of_lt_of_le t.1 (Nat.pow_le_pow_right (by decide) (by have := t.2; omega))
            · intro hs z
              apply c
              refine ⟨by rw [hs, Bool.or_true], ?_⟩
              have z2 := congrArg Int.natAbs z
              rw [signed_abs] at z2
              exact z2
    · split at h
      · cases h
      · rename_i c
        injection h with h
        rw [← h]
        refine ⟨⟨?_, Nat.zero_le _⟩, ?_, sg v⟩
        · rw [signed_abs]
          exact Nat.lt_trans g (by decide)
        · intro hs z
          apply c
          refine ⟨by rw [hs, Bool.or_true], ?_⟩
          have z2 := congrArg Int.natAbs z
          rw [signed_abs] at z2
          exact z2
theorem rowM_ok {ns : List Int} {k : Nat} {x : Int × Nat} (h : rowM ns k = .ok x) : x.1.natAbs < 10 ^ 18 := by
  unfold rowM at h
  split at h
  · obtain ⟨y, e, rfl⟩ := map_ok h
    have := most_lt e
    dsimp only
    omega
  · obtain ⟨y, e, rfl⟩ := map_ok h
    have := most_lt e
    dsimp only
    omega
theorem rowsM_ok {ns : List Int} : ∀ (n k : Nat) (x : List Int × Nat), rowsM ns n k = .ok x → x.1.length = n ∧ ∀ z ∈ x.1, z.natAbs < 10 ^ 18
  | 0, k, x, h => by injection h with h; rw [← h]; exact ⟨rfl, fun z m => by cases m⟩
  | n + 1, k, x, h => by
    unfold rowsM at h
    split at h
    · cases h
    · rename_i z k1 e1
      split at h
      · cases h
      · rename_i k2 e2
        obtain ⟨y, e, rfl⟩ := map_ok h
        obtain ⟨h1, h2⟩ := rowsM_ok n k2 y e
        refine ⟨by rw [List.length_cons, h1], fun w m => ?_⟩
        rcases List.mem_cons.mp m with r | r
        · rw [r]; exact rowM_ok e1
        · exact h2 w r
theorem probM_ok {ns : List Int} {k : Nat} {x : PM × Nat} (h : probM ns k = .ok x) : PMok x.1 := by
  unfold probM at h
  split at h
  · cases h
  · split at h
    · cases h
    · split at h
      · cases h
      · rename_i d k3 e3
        split at h
        · cases h
        · rename_i k4 e4
          split at h
          · obtain ⟨y, e, rfl⟩ := map_ok h
            unfold rowsAll at e
            split at e
            · cases e
            · rename_i n k5 e5
              split at e
              · cases e
              · rename_i k6 e6
                have hn := rb_le (show 64 < 10 ^ 45 by decide) e5
                dsimp only at hn
                obtain ⟨h1, h2⟩ := rowsM_ok _ _ _ e
                refine ⟨Nat.zero_le _, ?_, fun d hd => ?_⟩
                · dsimp only
                  rw [List.length_map, h1]
                  exact hn
                · obtain ⟨z, hz, rfl⟩ := List.mem_map.mp hd
                  exact h2 z hz
          · rename_i hd
            split at h
            · cases h
            · rename_i ds k5 e5
              split at h
              · cases h
              · rename_i pl k6 e6
                obtain ⟨y, e, rfl⟩ := map_ok h
                have hp := rb_le (show 9 < 10 ^ 45 by decide) e6
                refine ⟨hp, ?_⟩
                dsimp only
                unfold opsM at e5
                split at e5
                · cases e5
                · rename_i u m k7 e7
                  have o1 := decM_ok e7
                  dsimp only at o1
                  split at e5
                  · cases e5
                  · split at e5
                    · rename_i hr
                      injection e5 with e5
                      injection e5 with e5 _
                      subst hr
                      rw [← e5]
                      exact ⟨_, rfl, o1.1, o1.2.2 (by decide)⟩
                    · rename_i hr
                      split at e5
                      · cases e5
                      · rename_i u2 m2 k8 e8
                        have o2 := decM_ok e8
                        dsimp only at o2
                        obtain ⟨y, e, ey⟩ := map_ok e5
                        injection ey with ey _
                        rw [← ey]
                        cases d with
                        | sum => exact absurd rfl hd
                        | product => exact ⟨_, _, rfl, o1.1, o2.1⟩
                        | quotient => exact ⟨_, _, rfl, o1.1, o2.1, o2.2.1 (by decide)⟩
                        | root => exact absurd rfl hr
theorem sheetM_ok {ns : List Int} : ∀ (f k : Nat) (xs : List PM), sheetM ns f k = .ok xs → ∀ x ∈ xs, PMok x
  | 0, k, xs, h => by cases h
  | f + 1, k, xs, h => by
    unfold sheetM at h
    split at h
    · injection h with h
      rw [← h]
      intro x m
      cases m
    · split at h
      · cases h
      · rename_i x k1 e
        obtain ⟨y, e2, rfl⟩ := map_ok h
        intro w m
        rcases List.mem_cons.mp m with r | r
        · rw [r]; exact probM_ok e
        · exact sheetM_ok f k1 y e2 w r
/-! right -/
def RightR (x : PM) (z : Int) : Prop := match x.kd with
  | .sum => z = (x.nums.map (·.1)).sum
  | .product => ∃ d1 d2, x.nums = [d1, d2] ∧ z = NaCt.rounded (d1.1 * d2.1 * ((10 ^ x.pl : Nat) : Int)) (((10 ^ d1.2 : Nat) : Int) * ((10 ^ d2.2 : Nat) : Int))
  | .quotient => ∃ d1 d2, x.nums = [d1, d2] ∧ z = NaCt.rounded (d1.1 * ((10 ^ d2.2 : Nat) : Int) * ((10 ^ x.pl : Nat) : Int)) (((10 ^ d1.2 : Nat) : Int) * d2.1)
  | .root => ∃ d, ∃ r : Nat, x.nums = [d] ∧ r * r ≤ 4 * (d.1.natAbs * 10 ^ x.pl * 10 ^ x.pl) / 10 ^ d.2 ∧ 4 * (d.1.natAbs * 10 ^ x.pl * 10 ^ x.pl) / 10 ^ d.2 < (r + 1) * (r + 1) ∧ z = (((r + 1) / 2 : Nat) : Int)
def FF (t : List Nat) (k w : Nat) : Nat := (List.range k).foldl (fun (s i : Nat) => 10 * s + t.getD i 0) w
theorem FF_succ (t : List Nat) (k w : Nat) : FF t (k + 1) w = 10 * FF t k w + t.getD k 0 := by
  unfold FF
  rw [List.range_succ, List.foldl_append]
  rfl
theorem FF_from (t : List Nat) (w : Nat) : ∀ k, FF t k w = w * 10 ^ k + FF t k 0
  | 0 => by show w = w * 1 + 0; omega
  | k + 1 => by
    rw [FF_succ, FF_succ, FF_from t w k, Nat.pow_succ, ← Nat.mul_assoc]
    omega
theorem FF_take (t : List Nat) (w : Nat) : ∀ k, k ≤ t.length → FF t k w = (t.take k).foldl dg w
  | 0, _ => rfl
  | k + 1, h => by
    have hk : k < t.length := h
    have e1 : t.getD k 0 = t[k] := by simp [List.getD, hk]
    rw [FF_succ, FF_take t w k (by omega), List.take_succ_eq_append_getElem hk, List.foldl_append, e1]
    show _ = dg _ _
    unfold dg
    omega
theorem FF_more (t : List Nat) (w : Nat) : ∀ j, FF t (t.length + j) w = t.foldl dg w * 10 ^ j
  | 0 => by
    show FF t t.length w = _ * 1
    rw [FF_take t w _ (Nat.le_refl _), List.take_length, Nat.mul_one]
  | j + 1 => by
    have e1 : t.getD (t.length + j) 0 = 0 := by simp [List.getD]
    have e2 : t.foldl dg w * 10 ^ (j + 1) = t.foldl dg w * 10 ^ j * 10 := by rw [Nat.pow_succ, Nat.mul_assoc]
    rw [← Nat.add_assoc, FF_succ, FF_more t w j, e1, e2]
    omega
theorem scaled_eq (d : NaCt.Dec) (h : d.tail.length ≤ 9) : d.scaled = (decOf d).1 * ((10 ^ (9 - (decOf d).2) : Nat) : Int) := by
  have e : d.whole * NaCt.BILLION + (List.range 9).foldl (fun (s i : Nat) => 10 * s + d.tail.getD i 0) 0 = d.tail.foldl dg d.whole * 10 ^ (9 - d.tail.length) := by
    have e1 := FF_from d.tail d.whole 9
    have e2 := FF_more d.tail d.whole (9 - d.tail.length)
    rw [show d.tail.length + (9 - d.tail.length) = 9 by omega] at e2
    rw [← e2, e1]
    rfl
  unfold NaCt.Dec.scaled decOf signed
  dsimp only
  rw [e]
  split
  · rw [Int.natCast_mul, Int.neg_mul]
  · rw [Int.natCast_mul]
theorem rounded_mul (n d : Int) (c : Nat) (hc : 0 < c) : NaCt.rounded (n * (c : Int)) (d * (c : Int)) = NaCt.rounded n d := by
  have sgn : ∀ m : Int, (m * (c : Int) < 0) = (m < 0) := fun m => by
    apply propext
    constructor
    · intro h
      rcases (show m < 0 ∨ 0 ≤ m by omega) with z | z
      · exact z
      · have := Int.mul_nonneg z (show (0 : Int) ≤ (c : Int) by omega)
        omega
    · intro h
      exact Int.mul_neg_of_neg_of_pos h (by omega)
  have q : (2 * (n * (c : Int)).natAbs + (d * (c : Int)).natAbs) / (2 * (d * (c : Int)).natAbs) = (2 * n.natAbs + d.natAbs) / (2 * d.natAbs) := by
    rw [Int.natAbs_mul, Int.natAbs_mul, Int.natAbs_natCast, ← Nat.mul_assoc, ← Nat.mul_assoc, ← Nat.add_mul, Nat.mul_div_mul_right _ _ hc]
  unfold NaCt.rounded
  dsimp only
  rw [q]
  by_cases c : (n < 0) = (d < 0)
  · rw [if_pos c, if_pos (by rw [sgn, sgn]; exact c)]
  · rw [if_neg c, if_neg (by rw [sgn, sgn]; exact c)]
theorem rounded_le (n d : Int) (hd : d ≠ 0) : (NaCt.rounded n d).natAbs ≤ n.natAbs + 1 := by
  have q : (2 * n.natAbs + d.natAbs) / (2 * d.natAbs) ≤ n.natAbs + 1 := by
    apply Nat.div_le_of_le_mul
    have h1 : n.natAbs * 1 ≤ n.natAbs * d.natAbs := Nat.mul_le_mul_left _ (by omega)
    have e : 2 * d.natAbs * (n.natAbs + 1) = 2 * (n.natAbs * d.natAbs) + 2 * d.natAbs := by
      rw [Nat.mul_add, Nat.mul_one, Nat.mul_assoc, Nat.mul_comm d.natAbs]
    omega
  unfold NaCt.rounded
  dsimp only
  split
  · rw [Int.natAbs_natCast]; exact q
  · rw [Int.natAbs_neg, Int.natAbs_natCast]; exact q
theorem rootFrom_ok (n : Nat) : ∀ k r : Nat, r * r ≤ n → n < (r + 2 ^ k) * (r + 2 ^ k) → NaCt.rootFrom k r n * NaCt.rootFrom k r n ≤ n ∧ n < (NaCt.rootFrom k r n + 1) * (NaCt.rootFrom k r n + 1)
  | 0, r, h1, h2 => ⟨h1, h2⟩
  | k + 1, r, h1, h2 => by
    unfold NaCt.rootFrom
    by_cases c : (r + 2 ^ k) * (r + 2 ^ k) ≤ n
    · rw [if_pos c]
      refine rootFrom_ok n k _ c ?_
      rw [Nat.pow_succ] at h2
      rw [show r + 2 ^ k + 2 ^ k = r + 2 ^ k * 2 by omega]
      exact h2
    · rw [if_neg c]
      exact rootFrom_ok n k _ h1 (by omega)
theorem root_one {n a b : Nat} (h1 : a * a ≤ n) (h2 : n < (a + 1) * (a + 1)) (h3 : b * b ≤ n) (h4 : n < (b + 1) * (b + 1)) : a = b := by
  have key : ∀ x y : Nat, x * x ≤ n → n < (y + 1) * (y + 1) → x ≤ y := fun x y p q => by
    rcases Nat.lt_or_ge y x with z | z
    · have := Nat.mul_le_mul (show y + 1 ≤ x from z) (show y + 1 ≤ x from z)
      omega
    · exact z
  exact Nat.le_antisymm (key a b h1 h4) (key b a h3 h2)
end Ab

set_option Elab.async false
set_option linter.all false
set_option maxRecDepth 100000
set_option maxHeartbeats 2000000
namespace Ab
open L2 TL
theorem sum_abs : ∀ l : List Int, (∀ z ∈ l, z.natAbs < 10 ^ 18) → l.sum.natAbs ≤ l.length * 10 ^ 18
  | [], _ => Nat.zero_le _
  | z :: l, h => by
    have h1 := h z (by simp)
    have h2 := sum_abs l fun w m => h w (List.mem_cons_of_mem _ m)
    rw [List.sum_cons, List.length_cons, Nat.add_mul]
    have := Int.natAbs_add_le z l.sum
    omega
theorem ten_split {m : Nat} (h : m ≤ 9) : 10 ^ m * 10 ^ (9 - m) = 10 ^ 9 := by rw [← Nat.pow_add]; congr 1; omega
theorem ten_le {m : Nat} (h : m ≤ 9) : 10 ^ m ≤ 10 ^ 9 := Nat.pow_le_pow_right (by decide) h
theorem ten_pos (m : Nat) : 0 < 10 ^ m := Nat.pow_pos (by decide)
theorem z_bounds {z N T : Nat} (hT : T ≤ 10 ^ 9) (hT0 : 0 < T) (hN : N ≤ 10 ^ 55) (h : z ≤ N * T + 1) : z / T < 10 ^ 60 ∧ z < 10 ^ 70 := by
  have h1 : z < T * 10 ^ 60 := by
    have : N * T ≤ 10 ^ 55 * T := Nat.mul_le_mul_right _ hN
    omega
  exact ⟨Nat.div_lt_of_lt_mul h1, by omega⟩
theorem right_sum {l : List Int} (hl : l.length ≤ 64) (h : ∀ z ∈ l, z.natAbs < 10 ^ 18) : l.sum.natAbs < 10 ^ 60 := by
  have := sum_abs l h
  have h2 := Nat.mul_le_mul_right (10 ^ 18) hl
  omega
theorem right_prod (u1 u2 : Int) (m1 m2 p : Nat) (h1 : m1 ≤ 9) (h2 : m2 ≤ 9) : NaCt.rounded (u1 * u2 * ((10 ^ p : Nat) : Int)) (((10 ^ m1 : Nat) : Int) * ((10 ^ m2 : Nat) : Int)) =
    NaCt.rounded (u1 * ((10 ^ (9 - m1) : Nat) : Int) * (u2 * ((10 ^ (9 - m2) : Nat) : Int)) * 10 ^ p) (10 ^ 18) := by
  have t1 := ten_split h1
  have t2 := ten_split h2
  rw [← rounded_mul _ _ (10 ^ (9 - m1) * 10 ^ (9 - m2)) (Nat.mul_pos (ten_pos _) (ten_pos _))]
  have ep : ((10 ^ p : Nat) : Int) = 10 ^ p := by rw [Int.natCast_pow]; rfl
  generalize 10 ^ (9 - m1) = e1 at *
  generalize 10 ^ (9 - m2) = e2 at *
  generalize 10 ^ m1 = f1 at *
  generalize 10 ^ m2 = f2 at *
  rw [ep]
  have a1 : u1 * u2 * (10 : Int) ^ p * ((e1 * e2 : Nat) : Int) = u1 * (e1 : Int) * (u2 * (e2 : Int)) * 10 ^ p := by
    rw [Int.natCast_mul]
    generalize (10 : Int) ^ p = P
    simp only [Int.mul_assoc, Int.mul_comm, Int.mul_left_comm]
  have a2 : (f1 : Int) * (f2 : Int) * ((e1 * e2 : Nat) : Int) = 10 ^ 18 := by
    have : f1 * f2 * (e1 * e2) = 10 ^ 18 := by
      have : f1 * f2 * (e1 * e2) = (f1 * e1) * (f2 * e2) := by simp only [Nat.mul_assoc, Nat.mul_comm, Nat.mul_left_comm]
      rw [this, t1, t2]
    rw [← Int.natCast_mul, ← Int.natCast_mul, this]
    rfl
  rw [a1, a2]
theorem right_quot (u1 u2 : Int) (m1 m2 p : Nat) (h1 : m1 ≤ 9) (h2 : m2 ≤ 9) : NaCt.rounded (u1 * ((10 ^ m2 : Nat) : Int) * ((10 ^ p : Nat) : Int)) (((10 ^ m1 : Nat) : Int) * u2) =
    NaCt.rounded (u1 * ((10 ^ (9 - m1) : Nat) : Int) * 10 ^ p) (u2 * ((10 ^ (9 - m2) : Nat) : Int)) := by
  have t1 := ten_split h1
  have t2 := ten_split h2
  rw [← rounded_mul _ _ (10 ^ (9 - m1) * 10 ^ (9 - m2)) (Nat.mul_pos (ten_pos _) (ten_pos _))]
  rw [← rounded_mul (u1 * ((10 ^ (9 - m1) : Nat) : Int) * 10 ^ p) _ (10 ^ 9) (ten_pos 9)]
  have ep : ((10 ^ p : Nat) : Int) = 10 ^ p := by rw [Int.natCast_pow]; rfl
  rw [ep]
  generalize 10 ^ (9 - m1) = e1 at *
  generalize 10 ^ (9 - m2) = e2 at *
  generalize 10 ^ m1 = f1 at *
  generalize 10 ^ m2 = f2 at *
  generalize (10 : Int) ^ p = P
  have a1 : u1 * (f2 : Int) * P * ((e1 * e2 : Nat) : Int) = u1 * (e1 : Int) * P * ((10 ^ 9 : Nat) : Int) := by
    rw [← t2, Int.natCast_mul, Int.natCast_mul]
    simp only [Int.mul_assoc, Int.mul_comm, Int.mul_left_comm]
  have a2 : (f1 : Int) * u2 * ((e1 * e2 : Nat) : Int) = u2 * (e2 : Int) * ((10 ^ 9 : Nat) : Int) := by
    rw [← t1, Int.natCast_mul, Int.natCast_mul]
    simp only [Int.mul_assoc, Int.mul_comm, Int.mul_left_comm]
  rw [a1, a2]
theorem right_rt (u m p : Nat) (h : m ≤ 9) : 4 * (u * 10 ^ p * 10 ^ p) / 10 ^ m = 4 * (u * 10 ^ (9 - m)) * 10 ^ (2 * p) / 10 ^ 9 := by
  have t := ten_split h
  rw [← t, ← Nat.mul_div_mul_right (4 * (u * 10 ^ p * 10 ^ p)) (10 ^ m) (ten_pos (9 - m))]
  have : 10 ^ (2 * p) = 10 ^ p * 10 ^ p := by rw [← Nat.pow_add]; congr 1; omega
  rw [this]
  congr 1
  simp only [Nat.mul_assoc, Nat.mul_comm, Nat.mul_left_comm]
theorem right_eq (p : NaCt.Problem) {z : Int} (ok : PMok (pmOf p)) (h : RightR (pmOf p) z) : z = NaCt.right p.task ∧ z.natAbs / 10 ^ NaCt.places p.task < 10 ^ 60 ∧ z.natAbs < 10 ^ 70 := by
  obtain ⟨pts, t⟩ := p
  cases t with
  | sum l =>
    obtain ⟨_, h1, h2⟩ := ok
    have h : z = ((l.map fun z => (z, 0)).map (·.1)).sum := h
    have e : (l.map fun z => ((z, 0) : Int × Nat)).map (·.1) = l := by rw [List.map_map]; exact List.map_id l
    rw [e] at h
    subst h
    have h1 : (l.map fun z => ((z, 0) : Int × Nat)).length ≤ 64 := h1
    rw [List.length_map] at h1
    have b := right_sum h1 fun z hz => h2 (z, 0) (List.mem_map.mpr ⟨z, hz, rfl⟩)
    refine ⟨rfl, ?_, Nat.lt_trans b (by decide)⟩
    show l.sum.natAbs / 1 < _
    rw [Nat.div_one]
    exact b
  | product a b pl =>
    obtain ⟨hp, d1, d2, e, o1, o2⟩ := ok
    obtain ⟨d1', d2', e', hz⟩ := h
    have e : [decOf a, decOf b] = [d1, d2] := e
    have e' : [decOf a, decOf b] = [d1', d2'] := e'
    cases e
    cases e'
    have hp : pl ≤ 9 := hp
    have hz : z = NaCt.rounded ((decOf a).1 * (decOf b).1 * ((10 ^ pl : Nat) : Int)) (((10 ^ (decOf a).2 : Nat) : Int) * ((10 ^ (decOf b).2 : Nat) : Int)) := hz
    refine ⟨?_, ?_⟩
    · rw [hz, right_prod _ _ _ _ _ o1.2 o2.2]
      show _ = NaCt.rounded (a.scaled * b.scaled * 10 ^ pl) (10 ^ 18)
      rw [scaled_eq a o1.2, scaled_eq b o2.2]
    · have := rounded_le ((decOf a).1 * (decOf b).1 * ((10 ^ pl : Nat) : Int)) (((10 ^ (decOf a).2 : Nat) : Int) * ((10 ^ (decOf b).2 : Nat) : Int)) (by
        rw [← Int.natCast_mul]
        have := Nat.mul_pos (ten_pos (decOf a).2) (ten_pos (decOf b).2)
        omega)
      rw [← hz, Int.natAbs_mul, Int.natAbs_mul, Int.natAbs_natCast] at this
      refine z_bounds (ten_le hp) (ten_pos _) ?_ this
      exact Nat.le_trans (Nat.mul_le_mul (Nat.le_of_lt o1.1) (Nat.le_of_lt o2.1)) (by decide)
  | quotient a b pl =>
    obtain ⟨hp, d1, d2, e, o1, o2, n2⟩ := ok
    obtain ⟨d1', d2', e', hz⟩ := h
    have e : [decOf a, decOf b] = [d1, d2] := e
    have e' : [decOf a, decOf b] = [d1', d2'] := e'
    cases e
    cases e'
    have hp : pl ≤ 9 := hp
    have hz : z = NaCt.rounded ((decOf a).1 * ((10 ^ (decOf b).2 : Nat) : Int) * ((10 ^ pl : Nat) : Int)) (((10 ^ (decOf a).2 : Nat) : Int) * (decOf b).1) := hz
    refine ⟨?_, ?_⟩
    · rw [hz, right_quot _ _ _ _ _ o1.2 o2.2]
      show _ = NaCt.rounded (a.scaled * 10 ^ pl) b.scaled
      rw [scaled_eq a o1.2, scaled_eq b o2.2]
    · have := rounded_le ((decOf a).1 * ((10 ^ (decOf b).2 : Nat) : Int) * ((10 ^ pl : Nat) : Int)) (((10 ^ (decOf a).2 : Nat) : Int) * (decOf b).1) (by
        have := ten_pos (decOf a).2
        exact Int.mul_ne_zero (by omega) n2)
      rw [← hz, Int.natAbs_mul, Int.natAbs_mul, Int.natAbs_natCast, Int.natAbs_natCast] at this
      refine z_bounds (ten_le hp) (ten_pos _) ?_ this
      exact Nat.le_trans (Nat.mul_le_mul (Nat.le_of_lt o1.1) (ten_le o2.2)) (by decide)
  | root a pl =>
    obtain ⟨hp, d, e, o, n⟩ := ok
    obtain ⟨d', r, e', r1, r2, hz⟩ := h
    have e : [decOf a] = [d] := e
    have e' : [decOf a] = [d'] := e'
    cases e
    cases e'
    have hp : pl ≤ 9 := hp
    have r1 : r * r ≤ 4 * ((decOf a).1.natAbs * 10 ^ pl * 10 ^ pl) / 10 ^ (decOf a).2 := r1
    have r2 : 4 * ((decOf a).1.natAbs * 10 ^ pl * 10 ^ pl) / 10 ^ (decOf a).2 < (r + 1) * (r + 1) := r2
    have nb : 4 * ((decOf a).1.natAbs * 10 ^ pl * 10 ^ pl) / 10 ^ (decOf a).2 ≤ 4 * (10 ^ 27 * 10 ^ 9 * 10 ^ 9) := by
      refine Nat.le_trans (Nat.div_le_self _ _) (Nat.mul_le_mul_left _ ?_)
      exact Nat.mul_le_mul (Nat.mul_le_mul (Nat.le_of_lt o.1) (ten_le hp)) (ten_le hp)
    have rr : r ≤ r * r := by
      rcases Nat.eq_zero_or_pos r with z0 | z0
      · rw [z0]; exact Nat.zero_le _
      · exact Nat.le_mul_of_pos_left r z0
    refine ⟨?_, ?_⟩
    · have sc : a.scaled.natAbs = (decOf a).1.natAbs * 10 ^ (9 - (decOf a).2) := by rw [scaled_eq a o.2, Int.natAbs_mul, Int.natAbs_natCast]
      show z = (((NaCt.rootFrom 80 0 (4 * a.scaled.natAbs * 10 ^ (2 * pl) / 10 ^ 9) + 1) / 2 : Nat) : Int)
      rw [sc, ← right_rt _ _ _ o.2]
      have q := rootFrom_ok (4 * ((decOf a).1.natAbs * 10 ^ pl * 10 ^ pl) / 10 ^ (decOf a).2) 80 0 (Nat.zero_le _) (Nat.lt_of_le_of_lt nb (by decide))
      rw [← root_one r1 r2 q.1 q.2]
      exact hz
    · have hb : z.natAbs ≤ 4 * (10 ^ 27 * 10 ^ 9 * 10 ^ 9) + 1 := by
        rw [hz, Int.natAbs_natCast]
        have : (r + 1) / 2 ≤ r + 1 := Nat.div_le_self _ _
        omega
      exact ⟨Nat.lt_of_le_of_lt (Nat.div_le_self _ _) (Nat.lt_of_le_of_lt hb (by decide)), Nat.lt_of_le_of_lt hb (by decide)⟩
end Ab

set_option Elab.async false
set_option linter.all false
set_option maxRecDepth 100000
set_option maxHeartbeats 2000000
namespace Ab
open PySem PySem.Spec PyProof.Rows L2
def spRA (a : Ad) : Sp := fun vs H Q _ => ∃ (q r l : Addr) (x : PM), vs = [.ref q] ∧ PrAt a r H q l x ∧ PMok x ∧ ∀ (z : Int) (H' : Hp), RightR x z → Same H H' → Q (.int z) H'
theorem txt_eq_product : ∀ d : Kd, decide (V.str d.txt = V.str "product") = decide (d = .product)
  | .sum => by decide +kernel
  | .product => by decide +kernel
  | .quotient => by decide +kernel
  | .root => by decide +kernel
theorem txt_eq_quotient : ∀ d : Kd, decide (V.str d.txt = V.str "quotient") = decide (d = .quotient)
  | .sum => by decide +kernel
  | .product => by decide +kernel
  | .quotient => by decide +kernel
  | .root => by decide +kernel
theorem pf_kind (p : Int) (d : Str) (l : Addr) (q : Int) : (pf p d l q).lookup ("kind" : Str) = some (.str d) := rfl
theorem pf_numbers (p : Int) (d : Str) (l : Addr) (q : Int) : (pf p d l q).lookup ("numbers" : Str) = some (.ref l) := rfl
theorem pf_places (p : Int) (d : Str) (l : Addr) (q : Int) : (pf p d l q).lookup ("places" : Str) = some (.int q) := rfl
theorem lt100 {n : Nat} (h : n < 10 ^ 27) : n < 2 ^ 100 := Nat.lt_trans h (by decide)
theorem ten100 {n : Nat} (h : n ≤ 9) : 10 ^ n < 2 ^ 100 := Nat.lt_of_le_of_lt (ten_le h) (by decide)
theorem ten100i {n : Nat} (h : n ≤ 9) : (((10 ^ n : Nat) : Int)).natAbs < 2 ^ 100 := by rw [Int.natAbs_natCast]; exact ten100 h
theorem ten_ne (n : Nat) : (((10 ^ n : Nat) : Int)) ≠ 0 := by have := ten_pos n; omega
theorem DecsAt.two {a : Ad} {r : Addr} {H : Hp} {d1 d2 : Int × Nat} : ∀ {qs : List Addr}, DecsAt a r H qs [d1, d2] → ∃ q1 q2, qs = [q1, q2] ∧ DcAt a H q1 d1.1 ((10 ^ d1.2 : Nat) : Int) ∧ DcAt a H q2 d2.1 ((10 ^ d2.2 : Nat) : Int)
  | [q1, q2], h => ⟨q1, q2, rfl, h.2.1, h.2.2.2.1⟩
  | [], h => h.elim
  | [_], h => h.2.2.elim
  | _ :: _ :: _ :: _, h => h.2.2.2.2.elim
theorem DecsAt.one {a : Ad} {r : Addr} {H : Hp} {d1 : Int × Nat} : ∀ {qs : List Addr}, DecsAt a r H qs [d1] → ∃ q1, qs = [q1] ∧ DcAt a H q1 d1.1 ((10 ^ d1.2 : Nat) : Int)
  | [q1], h => ⟨q1, rfl, h.2.1⟩
  | [], h => h.elim
  | _ :: _ :: _, h => h.2.2.elim
theorem DecsAt.at {a : Ad} {r : Addr} {H : Hp} : ∀ {qs : List Addr} {ds : List (Int × Nat)} {i : Nat} {q : Addr}, DecsAt a r H qs ds → qs[i]? = some q → ∃ d, ds[i]? = some d ∧ DcAt a H q d.1 ((10 ^ d.2 : Nat) : Int)
  | q :: qs, d :: ds, 0, q', h, e => by
    have e : some q = some q' := e
    cases e
    exact ⟨d, rfl, h.2.1⟩
  | q :: qs, d :: ds, i + 1, q', h, e => DecsAt.at (qs := qs) (ds := ds) (i := i) h.2.2 e
  | [], [], _, _, _, e => by cases e
  | [], _ :: _, _, _, h, _ => h.elim
  | _ :: _, [], _, _, h, _ => h.elim
section
variable {P : Program} {w : World} {K : PySem.W.Frag} {mg : Str → Option Value} {base : Heap} {a : Ad}
theorem sc_rightAnswer : FnScope ["problem", "numbers", "unit", "row"] ["problem"] (defScope s_rightAnswer) := ⟨rfl, rfl, rfl, by decide +kernel, rfl, by decide +kernel, by decide +kernel⟩
theorem ok_rightAnswer (T : Tx K mg a) : Good P w K mg base CX0 4 a.f_rightAnswer ["problem"] (spRA a) := by
  obtain ⟨fd, F, b⟩ := T.rightAnswer.ex
  obtain ⟨fd1, G1, b1, kp1⟩ := ok_tenTo (P := P) (w := w) (base := base) T
  obtain ⟨fd2, G2, b2, kp2⟩ := ok_rightProduct (P := P) (w := w) (base := base) T
  obtain ⟨fd3, G3, b3, kp3⟩ := ok_rightQuotient (P := P) (w := w) (base := base) T
  obtain ⟨fd4, G4, b4, kp4⟩ := ok_rightRoot (P := P) (w := w) (base := base) T
  refine ⟨fd, F.ok sc_rightAnswer (fun vs H Q E h => ?_) (fun cdv A outer s H vs Q E hr h => ?_), b, F.kp⟩
  · obtain ⟨q, r, l, x, rfl, _⟩ := h; rfl
  · obtain ⟨q, r, l, x, rfl, ⟨nqr, ⟨dx, hx⟩, nlr, qs, hl, D⟩, ok, k⟩ := h
    refine ⟨_, pss_cons (ps_set (i := 1) sc_rightAnswer.nd rfl (Or.inl rfl) (pe_fld (pv 0) rfl))
      (pss_cons (ps_set (i := 2) sc_rightAnswer.nd rfl (Or.inl rfl) (pe_call G1 (hr.mono (by decide)) (by rfl) T.g_tenTo kp1 b1 .nil pass0 (pa_cons (pe_fld (pv 0) rfl) pa_nil)))
      (pss_cons (ps_if (pt_cmpR op_eq (pe_fld (pv 0) rfl) pe_str (nomark _)) (pss_one (ps_ret (pe_callB (cr_sum rfl) (by rfl) T.b_sum PyProof.Rows.boot_sum (pa_cons
          (pe_lc (own := [("row", 3)]) (te := tFld K (tVar 3) "units") rfl sc_rightAnswer.nd (pi_list (pv 1)) (blkOk_by (by show blkC ["problem", "numbers", "unit", "row"] (defScope s_rightAnswer) _ _ = true; decide +kernel)) (fun _ _ _ _ _ => pg_name (i := 3) sc_rightAnswer.nd rfl (Or.inl rfl)) (fun _ _ _ _ _ => pts_nil) (fun _ _ _ _ _ => pe_fld (pv 3) rfl)) pa_nil)))) pss_nil)
      (pss_cons (ps_if (pt_cmpR op_eq (pe_fld (pv 0) rfl) pe_str (nomark _)) (pss_one (ps_ret (pe_call G2 (hr.mono (by decide)) (by rfl) T.g_rightProduct kp2 b2 .nil pass0 (pa_cons (pe_ix ix_list (pv 1) pe_int (fun _ _ => rfl)) (pa_cons (pe_ix ix_list (pv 1) pe_int (fun _ _ => rfl)) (pa_cons (pv 2) pa_nil)))))) pss_nil)
      (pss_cons (ps_if (pt_cmpR op_eq (pe_fld (pv 0) rfl) pe_str (nomark _)) (pss_one (ps_ret (pe_call G3 (hr.mono (by decide)) (by rfl) T.g_rightQuotient kp3 b3 .nil pass0 (pa_cons (pe_ix ix_list (pv 1) pe_int (fun _ _ => rfl)) (pa_cons (pe_ix ix_list (pv 1) pe_int (fun _ _ => rfl)) (pa_cons (pv 2) pa_nil)))))) pss_nil)
      (pss_one (ps_ret (pe_call G4 (hr.mono (by decide)) (by rfl) T.g_rightRoot kp4 b4 .nil pass0 (pa_cons (pe_ix ix_list (pv 1) pe_int (fun _ _ => rfl)) (pa_cons (pv 2) pa_nil))))))))), ?_⟩
    refine ⟨_, rfl, q, a.cPr, dx, _, _, rfl, hx, T.pPr.cl, T.pPr.no _ (by simp), pf_numbers _ _ _ _, ?_⟩
    refine ⟨_, rfl, q, a.cPr, dx, _, _, rfl, hx, T.pPr.cl, T.pPr.no _ (by simp), pf_places _ _ _ _, ?_⟩
    refine ⟨x.pl, rfl, ok.1, ?_⟩
    refine ⟨_, rfl, q, a.cPr, dx, _, _, rfl, hx, T.pPr.cl, T.pPr.no _ (by simp), pf_kind _ _ _ _, rfl, _, rfl, ?_⟩
    rw [txt_eq_sum]
    by_cases hs : x.kd = .sum
    · rw [decide_eq_true hs]
      refine iteT ?_
      have ok2 := ok.2
      rw [hs] at ok2
      have lq : qs.length = x.nums.length := D.len
      refine ⟨_, rfl, l, rfl, ⟨_, SqL.of hl⟩, fun N hN => ?_⟩
      refine lc_list (xs := qs.map V.ref) (fun i H' => Same H H' ∧ H' N = some (.lst ((x.nums.take i).map fun d => V.int d.1))) ⟨fun b o z => by rw [upd_ne (ne_of_none z hN)]; exact z, upd_same⟩ (fun i H' hi p => SqL.of (p.1 _ _ hl)) ?_ ?_
      · rintro i v H' e ⟨sm, hN'⟩
        rw [List.getElem?_map] at e
        cases e2 : qs[i]? with
        | none => rw [e2] at e; cases e
        | some qi =>
          rw [e2] at e
          cases e
          obtain ⟨d, hd, dxi, hqi⟩ := D.at e2
          refine ⟨rfl, ?_⟩
          refine ⟨_, rfl, qi, a.cDec, dxi, _, _, rfl, sm _ _ hqi, T.pDec.cl, T.pDec.no _ (by simp), df_units _ _, _, hN', ?_, ?_, ?_⟩
          · rw [List.length_map, List.length_take]
            have : min i x.nums.length ≤ 64 := Nat.le_trans (Nat.min_le_right _ _) ok2.1
            exact Nat.lt_of_le_of_lt this (by decide)
          · intro b o z
            rw [upd_ne (ne_of_none z hN)]
            exact sm _ _ z
          · rw [upd_same, List.take_add_one, hd, List.map_append]
            rfl
      · rintro H' ⟨sm, hN'⟩
        refine ⟨N, x.nums.map (·.1), rfl, ?_, k _ _ (by unfold RightR; rw [hs]) sm⟩
        have e : (x.nums.take (qs.map V.ref).length).map (fun d => V.int d.1) = (x.nums.map (·.1)).map V.int := by
          rw [List.length_map, lq, List.take_length, List.map_map]
          rfl
        rw [← e]
        exact SqL.of hN'
    rw [decide_eq_false hs]
    refine iteF ?_
    refine ⟨_, rfl, q, a.cPr, dx, _, _, rfl, hx, T.pPr.cl, T.pPr.no _ (by simp), pf_kind _ _ _ _, rfl, _, rfl, ?_⟩
    rw [txt_eq_product]
    by_cases hp : x.kd = .product
    · rw [decide_eq_true hp]
      refine iteT ?_
      have ok2 := ok.2
      rw [hp] at ok2
      obtain ⟨d1, d2, e, o1, o2⟩ := ok2
      rw [e] at D
      obtain ⟨q1, q2, rfl, c1, c2⟩ := D.two
      refine ⟨_, rfl, l, _, 0, _, rfl, rfl, SqL.of hl, at_of (j := 0) rfl rfl, _, rfl, l, _, 1, _, rfl, rfl, SqL.of hl, at_of (j := 1) rfl rfl, _, rfl, ?_⟩
      exact ⟨q1, q2, d1.1, _, d2.1, _, ((10 ^ x.pl : Nat) : Int), rfl, c1, c2, lt100 o1.1, lt100 o2.1, ten100i o1.2, ten100i o2.2, ten100i ok.1, ten_ne _, ten_ne _, k _ _ (by unfold RightR; rw [hp]; exact ⟨d1, d2, e, rfl⟩) fun _ _ z => z⟩
    rw [decide_eq_false hp]
    refine iteF ?_
    refine ⟨_, rfl, q, a.cPr, dx, _, _, rfl, hx, T.pPr.cl, T.pPr.no _ (by simp), pf_kind _ _ _ _, rfl, _, rfl, ?_⟩
    rw [txt_eq_quotient]
    by_cases hq : x.kd = .quotient
    · rw [decide_eq_true hq]
      refine iteT ?_
      have ok2 := ok.2
      rw [hq] at ok2
      obtain ⟨d1, d2, e, o1, o2, n2⟩ := ok2
      rw [e] at D
      obtain ⟨q1, q2, rfl, c1, c2⟩ := D.two
      refine ⟨_, rfl, l, _, 0, _, rfl, rfl, SqL.of hl, at_of (j := 0) rfl rfl, _, rfl, l, _, 1, _, rfl, rfl, SqL.of hl, at_of (j := 1) rfl rfl, _, rfl, ?_⟩
      exact ⟨q1, q2, d1.1, _, d2.1, _, ((10 ^ x.pl : Nat) : Int), rfl, c1, c2, lt100 o1.1, lt100 o2.1, ten100i o1.2, ten100i o2.2, ten100i ok.1, ten_ne _, n2, k _ _ (by unfold RightR; rw [hq]; exact ⟨d1, d2, e, rfl⟩) fun _ _ z => z⟩
    rw [decide_eq_false hq]
    refine iteF ?_
    have hrt : x.kd = .root := by
      cases hk : x.kd with
      | sum => exact absurd hk hs
      | product => exact absurd hk hp
      | quotient => exact absurd hk hq
      | root => rfl
    have ok2 := ok.2
    rw [hrt] at ok2
    obtain ⟨d, e, o, n⟩ := ok2
    rw [e] at D
    obtain ⟨q1, rfl, c1⟩ := D.one
    have en : d.1 = ((d.1.natAbs : Nat) : Int) := by omega
    rw [en] at c1
    refine ⟨_, rfl, l, _, 0, _, rfl, rfl, SqL.of hl, at_of (j := 0) rfl rfl, _, rfl, ?_⟩
    refine ⟨q1, d.1.natAbs, 10 ^ d.2, 10 ^ x.pl, rfl, c1, lt100 o.1, ten100 o.2, ten100 ok.1, ten_pos _, fun r h1 h2 => k _ _ (by unfold RightR; rw [hrt]; exact ⟨d, r, e, h1, h2, rfl⟩) fun _ _ z => z⟩
end
end Ab

set_option linter.all false
set_option maxRecDepth 100000
set_option maxHeartbeats 2000000
/-! Marks and points as the program makes them. -/
namespace Ab
open NaCt
def mark1 (p : Problem) (x : Option Dec) : Nat := match x with
  | none => 0
  | some d => if hits d (right p.task) (places p.task) = true then 1 else 2
theorem marks_none : ∀ s : Sheet, marks s [] = List.replicate s.length 0
  | [] => rfl
  | p :: s => by
    show 0 :: marks s [] = _
    rw [marks_none s]
    rfl
theorem marks_zip : ∀ (s : Sheet) (g : List (Option Dec)), g.length ≤ s.length → marks s g = List.zipWith mark1 s g ++ List.replicate (s.length - g.length) 0
  | [], [], _ => rfl
  | [], _ :: _, h => by exact absurd h (Nat.not_succ_le_zero _)
  | p :: s, [], _ => by
    rw [marks_none]
    rfl
  | p :: s, x :: g, h => by
    have ih := marks_zip s g (Nat.le_of_succ_le_succ h)
    show mark1 p x :: marks s g = mark1 p x :: (List.zipWith mark1 s g ++ List.replicate (s.length + 1 - (g.length + 1)) 0)
    rw [ih, Nat.add_sub_add_right]
theorem marks_len : ∀ (s : Sheet) (g : List (Option Dec)), (marks s g).length = s.length
  | [], g => by cases g <;> rfl
  | p :: s, [] => by rw [marks_none, List.length_replicate]
  | p :: s, x :: g => by
    show (marks s g).length + 1 = _
    rw [marks_len s g]
    rfl
def intsN (l : List Nat) : List Int := l.map fun (n : Nat) => (n : Int)
theorem count_many (e : List Nat) (k : Nat) : (intsN e).count (k : Int) = howMany e k := by
  unfold intsN howMany
  induction e with
  | nil => rfl
  | cons x e ih =>
    rw [List.map_cons, List.count_cons, ih, List.filter_cons]
    by_cases c : x = k
    · subst c
      rw [beq_self_eq_true, if_pos rfl, beq_self_eq_true, if_pos rfl]
      rfl
    · have c1 : ((x : Int) == (k : Int)) = false := beq_eq_false_iff_ne.mpr (by omega)
      have c2 : (x == k) = false := beq_eq_false_iff_ne.mpr c
      rw [c1, c2, if_neg Bool.false_ne_true, if_neg Bool.false_ne_true]
      rfl
/-- the points of the right ones, one behind another -/
def won : Sheet → List Nat → List Int
  | p :: s, k :: e => (if k = 1 then [((p.points : Nat) : Int)] else []) ++ won s e
  | _, _ => []
theorem won_sum : ∀ (s : Sheet) (e : List Nat), (won s e).sum = ((earned s e : Nat) : Int)
  | [], e => by cases e <;> rfl
  | _ :: _, [] => rfl
  | p :: s, k :: e => by
    show ((if k = 1 then [((p.points : Nat) : Int)] else []) ++ won s e).sum = (((if k = 1 then p.points else 0) + earned s e : Nat) : Int)
    rw [List.sum_append, won_sum s e]
    by_cases c : k = 1
    · rw [if_pos c, if_pos c, List.sum_cons, List.sum_nil]; omega
    · rw [if_neg c, if_neg c, List.sum_nil]; omega
theorem won_snoc : ∀ (s : Sheet) (e : List Nat) (i : Nat) (p : Problem) (k : Nat), s[i]? = some p → e[i]? = some k → won (s.take (i + 1)) (e.take (i + 1)) = won (s.take i) (e.take i) ++ if k = 1 then [((p.points : Nat) : Int)] else []
  | [], _, _, _, _, h, _ => by cases h
  | _ :: _, [], _, _, _, _, h => by cases h
  | x :: s, y :: e, 0, p, k, h1, h2 => by
    have h1 : some x = some p := h1
    have h2 : some y = some k := h2
    cases h1
    cases h2
    show (if y = 1 then [((x.points : Nat) : Int)] else []) ++ won (s.take 0) (e.take 0) = won ([] : Sheet) [] ++ _
    rw [List.take_zero, List.take_zero]
    show _ ++ [] = [] ++ _
    rw [List.append_nil, List.nil_append]
  | x :: s, y :: e, i + 1, p, k, h1, h2 => by
    have ih := won_snoc s e i p k h1 h2
    show (if y = 1 then [((x.points : Nat) : Int)] else []) ++ won (s.take (i + 1)) (e.take (i + 1)) = ((if y = 1 then [((x.points : Nat) : Int)] else []) ++ won (s.take i) (e.take i)) ++ _
    rw [ih, List.append_assoc]
theorem won_len : ∀ (s : Sheet) (e : List Nat), (won s e).length ≤ s.length
  | [], e => by cases e <;> exact Nat.le_refl _
  | _ :: _, [] => Nat.zero_le _
  | p :: s, k :: e => by
    show ((if k = 1 then [((p.points : Nat) : Int)] else []) ++ won s e).length ≤ s.length + 1
    rw [List.length_append]
    have := won_len s e
    split
    · show 1 + _ ≤ _; omega
    · show 0 + _ ≤ _; omega
/-- what the marks give by themselves -/
def gainM (m : Nat) (s : Sheet) (e : List Nat) : Nat := earned s e - m * howMany e 2
theorem gain_max (m : Nat) (s : Sheet) (e : List Nat) : (if ((earned s e : Nat) : Int) - (m : Int) * ((howMany e 2 : Nat) : Int) > 0 then ((earned s e : Nat) : Int) - (m : Int) * ((howMany e 2 : Nat) : Int) else 0) = ((gainM m s e : Nat) : Int) := by
  unfold gainM
  have : (m : Int) * ((howMany e 2 : Nat) : Int) = ((m * howMany e 2 : Nat) : Int) := by rw [Int.natCast_mul]
  rw [this]
  split <;> omega
theorem points_due (l m b : Nat) (s : Sheet) (e : List Nat) (t : Nat) (he : e.length = s.length) : pointsOf ⟨l, m, b⟩ s e t =
    if l = 0 then gainM m s e else if l < t then 0 else if 0 < e.length ∧ howMany e 1 = e.length then gainM m s e + b * ((l - t) / 60) else gainM m s e := by
  unfold pointsOf gainM
  dsimp only
  have hs : (s ≠ []) ↔ 0 < e.length := by
    rw [he]
    cases s with
    | nil => simp
    | cons p s => simp
  by_cases h0 : l = 0
  · rw [if_neg (by omega), if_pos h0, if_neg (by omega), Nat.add_zero]
  · rw [if_neg h0]
    by_cases h1 : l < t
    · rw [if_pos ⟨h0, h1⟩, if_pos h1]
    · rw [if_neg (by omega), if_neg h1]
      by_cases h2 : 0 < e.length ∧ howMany e 1 = e.length
      · rw [if_pos h2, if_pos ⟨hs.mpr h2.1, by rw [← he]; exact h2.2, h0⟩]
      · rw [if_neg h2, if_neg, Nat.add_zero]
        rintro ⟨a1, a2, _⟩
        exact h2 ⟨hs.mp a1, by rw [he]; exact a2⟩
theorem mark1_le (p : Problem) (x : Option Dec) : mark1 p x ≤ 2 := by
  unfold mark1
  split
  · decide
  · split <;> decide
end Ab

set_option Elab.async false
set_option linter.all false
set_option maxRecDepth 100000
set_option maxHeartbeats 2000000
namespace Ab
open PySem PySem.Spec PyProof.Rows L2
theorem PrsAll.at1 {a : Ad} {r l0 : Addr} {H : Hp} : ∀ {qs : List Addr} {xs : List PM} {i : Nat} {q : Addr}, PrsAll a r l0 H qs xs → qs[i]? = some q → ∃ x l, xs[i]? = some x ∧ PrAt a r H q l x
  | q :: qs, y :: xs, 0, q', h, e => by
    have e : some q = some q' := e
    cases e
    obtain ⟨⟨l, _, p⟩, _⟩ := h
    exact ⟨y, l, rfl, p⟩
  | q :: qs, y :: xs, i + 1, q', h, e => PrsAll.at1 (qs := qs) (xs := xs) (i := i) h.2 e
  | [], [], _, _, _, e => by cases e
  | [], _ :: _, _, _, h, _ => h.elim
  | _ :: _, [], _, _, h, _ => h.elim
theorem same_new {H H' : Hp} {p : Addr} {o : HO} (s : Same H H') (h : H p = none) : Same H (upd H' p o) := fun b u e => by
  rw [upd_ne (ne_of_none e h)]
  exact s _ _ e
theorem PrAt.same {a : Ad} {r q l : Addr} {H H' : Hp} {x : PM} (p : PrAt a r H q l x) (s : Same H H') : PrAt a r H' q l x := p.keep fun b o z _ => s b o z
def spRules : Sp := fun vs H Q _ => ∃ l m b : Int, vs = [.int l, .int m, .int b] ∧ 0 ≤ l ∧ 0 ≤ m ∧ 0 ≤ b ∧ Q (.bl (NaCt.Rules.ok ⟨l.toNat, m.toNat, b.toNat⟩)) H
def OptOk (g : Option NaCt.Dec) : Prop := ∀ d, g = some d → (decOf d).1.natAbs < 10 ^ 49 ∧ (decOf d).2 ≤ 9
def spMo (a : Ad) : Sp := fun vs H Q _ => ∃ (q r l r2 : Addr) (p : NaCt.Problem) (v : V) (g : Option NaCt.Dec), vs = [.ref q, v] ∧ PrAt a r H q l (pmOf p) ∧ PMok (pmOf p) ∧ OptAt a r2 H v (g.map decOf) ∧ OptOk g ∧ ∀ H', Same H H' → Q (.int ((mark1 p g : Nat) : Int)) H'
/-- the problems of a sheet, and that they are bounded -/
structure ShOk (a : Ad) (H : Hp) (l : Addr) (sh : NaCt.Sheet) : Prop where
  at_ : ShAt a H l (sh.map pmOf)
  ok : ∀ x ∈ sh.map pmOf, PMok x
  few : sh.length ≤ 16500
theorem ShAt.same {a : Ad} {H H' : Hp} {l : Addr} {xs : List PM} (h : ShAt a H l xs) (s : Same H H') : ShAt a H' l xs := by
  obtain ⟨r, qs, e, p⟩ := h
  exact ⟨r, qs, s _ _ e, p.mono fun q l x n y => y.same s⟩
theorem ShOk.same {a : Ad} {H H' : Hp} {l : Addr} {sh : NaCt.Sheet} (h : ShOk a H l sh) (s : Same H H') : ShOk a H' l sh := ⟨h.at_.same s, h.ok, h.few⟩
def nV (n : Nat) : V := .int (n : Int)
theorem nV_map (e : List Nat) : e.map nV = (intsN e).map V.int := by
  unfold intsN
  rw [List.map_map]
  rfl
def spMks (a : Ad) : Sp := fun vs H Q _ => ∃ (lp ln r2 : Addr) (sh : NaCt.Sheet) (ws : List V) (g : List (Option NaCt.Dec)), vs = [.ref lp, .ref ln] ∧ ShOk a H lp sh ∧ H ln = some (.lst ws) ∧ OptsAt a r2 H ws (g.map (Option.map decOf)) ∧ (∀ x ∈ g, OptOk x) ∧ g.length ≤ sh.length ∧
  ∀ (H' : Hp) (p : Addr), H' p = some (.lst ((NaCt.marks sh g).map nV)) → Same H H' → Q (.ref p) H'
section
variable {P : Program} {w : World} {K : PySem.W.Frag} {mg : Str → Option Value} {base : Heap} {a : Ad}
theorem sc_areRules : FnScope ["limit", "minus", "bonus"] ["limit", "minus", "bonus"] (defScope s_areRules) := ⟨rfl, rfl, rfl, by decide +kernel, rfl, by decide +kernel, by decide +kernel⟩
theorem ok_areRules (T : Tx K mg a) : Good P w K mg base CX0 1 a.f_areRules ["limit", "minus", "bonus"] spRules := by
  obtain ⟨fd, F, b⟩ := T.areRules.ex
  obtain ⟨t1, h1⟩ := T.k_MOST_LIMIT
  obtain ⟨t2, h2⟩ := T.k_MOST_MINUS
  obtain ⟨t3, h3⟩ := T.k_MOST_BONUS
  obtain ⟨b1, e1⟩ : ∃ b1 : Int, b1 = 99999 := ⟨_, rfl⟩
  obtain ⟨b2, e2⟩ : ∃ b2 : Int, b2 = 9999 := ⟨_, rfl⟩
  rw [← e1] at h1
  rw [← e2] at h2 h3
  refine ⟨fd, F.ok sc_areRules (fun vs H Q E h => ?_) (fun cdv A outer s H vs Q E hr h => ?_), b, F.kp⟩
  · obtain ⟨l, m, b, rfl, _⟩ := h; rfl
  · obtain ⟨l, m, b, rfl, p1, p2, p3, q⟩ := h
    refine ⟨_, pss_one (ps_ret (pe_and (pe_chain op_le op_le pe_int (pv 0) (pe_glob (v := .int b1) (by rfl) h1 ⟨_, rfl⟩)) (pe_and (pe_chain op_le op_le pe_int (pv 1) (pe_glob (v := .int b2) (by rfl) h2 ⟨_, rfl⟩)) (pe_one (pe_chain op_le op_le pe_int (pv 2) (pe_glob (v := .int b2) (by rfl) h3 ⟨_, rfl⟩)))))), ?_⟩
    have ev : NaCt.Rules.ok ⟨l.toNat, m.toNat, b.toNat⟩ = (decide (l ≤ b1) && (decide (m ≤ b2) && decide (b ≤ b2))) := by
      unfold NaCt.Rules.ok
      dsimp only
      rw [e1, e2]
      rw [Bool.eq_iff_iff]
      simp only [Bool.and_eq_true, decide_eq_true_eq]
      omega
    rw [ev] at q
    refine ⟨_, rfl, _, _, rfl, rfl, _, rfl, ?_⟩
    rw [decide_eq_true p1]
    refine iteT ⟨_, _, rfl, rfl, _, rfl, ?_⟩
    by_cases c1 : l ≤ b1
    · rw [decide_eq_true c1] at q ⊢
      refine iteT ⟨_, rfl, _, _, rfl, rfl, _, rfl, ?_⟩
      rw [decide_eq_true p2]
      refine iteT ⟨_, _, rfl, rfl, _, rfl, ?_⟩
      by_cases c2 : m ≤ b2
      · rw [decide_eq_true c2] at q ⊢
        refine iteT ⟨_, rfl, _, _, rfl, rfl, _, rfl, ?_⟩
        rw [decide_eq_true p3]
        exact iteT ⟨_, _, rfl, rfl, q⟩
      · rw [decide_eq_false c2] at q ⊢
        exact iteF q
    · rw [decide_eq_false c1] at q ⊢
      exact iteF q
theorem sc_markOf : FnScope ["problem", "number"] ["problem", "number"] (defScope s_markOf) := ⟨rfl, rfl, rfl, by decide +kernel, rfl, by decide +kernel, by decide +kernel⟩
theorem pow64 {m : Nat} (h : m ≤ 9) : -(2 ^ 64) < ((10 ^ m : Nat) : Int) ∧ ((10 ^ m : Nat) : Int) < 2 ^ 64 := by
  have : 10 ^ m ≤ 10 ^ 9 := Nat.pow_le_pow_right (by decide) h
  generalize 10 ^ m = n at this ⊢
  omega
theorem ok_markOf (T : Tx K mg a) : Good P w K mg base CX0 5 a.f_markOf ["problem", "number"] (spMo a) := by
  obtain ⟨fd, F, b⟩ := T.markOf.ex
  obtain ⟨fd1, G1, b1, kp1⟩ := ok_tenTo (P := P) (w := w) (base := base) T
  obtain ⟨fd2, G2, b2, kp2⟩ := ok_rightAnswer (P := P) (w := w) (base := base) T
  obtain ⟨t1, h1⟩ := T.k_LEFT_OUT
  obtain ⟨t2, h2⟩ := T.k_RIGHT
  obtain ⟨t3, h3⟩ := T.k_WRONG
  refine ⟨fd, F.ok sc_markOf (fun vs H Q E h => ?_) (fun cdv A outer s H vs Q E hr h => ?_), b, F.kp⟩
  · obtain ⟨q, r, l, r2, p, v, g, rfl, _⟩ := h; rfl
  · obtain ⟨q, r, l, r2, p, v, g, rfl, pr, okp, ov, og, fin⟩ := h
    refine ⟨_, pss_cons (ps_if (pt_cmp (pc_isN (pv 1)) (by rfl)) (pss_one (ps_ret (pe_glob (v := .int 0) (by rfl) h1 ⟨_, rfl⟩))) pss_nil)
      (pss_cons (ps_if (pt_cmpR op_eq (pe_op op_mul (pe_fld (pv 1) rfl) (pe_call G1 (hr.mono (by decide)) (by rfl) T.g_tenTo kp1 b1 .nil pass0 (pa_cons (pe_fld (pv 0) rfl) pa_nil))) (pe_op op_mul (pe_call G2 hr (by rfl) T.g_rightAnswer kp2 b2 .nil pass0 (pa_cons (pv 0) pa_nil)) (pe_fld (pv 1) rfl)) (nomark _)) (pss_one (ps_ret (pe_glob (v := .int 1) (by rfl) h2 ⟨_, rfl⟩))) pss_nil)
      (pss_one (ps_ret (pe_glob (v := .int 2) (by rfl) h3 ⟨_, rfl⟩)))), ?_⟩
    refine ⟨_, rfl, _, rfl, ?_⟩
    cases g with
    | none =>
      have ev : v = .non := ov
      rw [decide_eq_true ev]
      exact iteT (fin H (Same.refl _))
    | some d =>
      obtain ⟨q2, rfl, nq, dq, hq⟩ := ov
      obtain ⟨o1, o2⟩ := og d rfl
      obtain ⟨dx, hx⟩ := pr.ins
      rw [decide_eq_false (by intro z; cases z)]
      refine iteF ?_
      refine ⟨_, rfl, q2, a.cDec, dq, _, _, rfl, hq, T.pDec.cl, T.pDec.no _ (by simp), df_units _ _, ?_⟩
      refine ⟨_, rfl, q, a.cPr, dx, _, _, rfl, hx, T.pPr.cl, T.pPr.no _ (by simp), pf_places _ _ _ _, ?_⟩
      refine ⟨(pmOf p).pl, rfl, okp.1, ?_⟩
      refine ⟨_, _, rfl, rfl, .inr (pow64 okp.1), ?_⟩
      refine ⟨_, rfl, q, r, l, pmOf p, rfl, pr, okp, fun z H' hR sm => ?_⟩
      obtain ⟨ez, _, _⟩ := right_eq p okp hR
      refine ⟨_, rfl, q2, a.cDec, dq, _, _, rfl, sm _ _ hq, T.pDec.cl, T.pDec.no _ (by simp), df_scale _ _, ?_⟩
      refine ⟨_, _, rfl, rfl, .inr (pow64 o2), rfl, _, rfl, ?_⟩
      have eh := hits_eq d z (NaCt.places p.task) o2
      have fin := fin H' sm
      have em : mark1 p (some d) = if NaCt.hits d (NaCt.right p.task) (NaCt.places p.task) = true then 1 else 2 := rfl
      rw [em, ← ez, eh] at fin
      by_cases c : (decOf d).1 * ((10 ^ NaCt.places p.task : Nat) : Int) = z * ((10 ^ (decOf d).2 : Nat) : Int)
      · rw [decide_eq_true c, if_pos rfl] at fin
        rw [decide_eq_true (show V.int ((decOf d).1 * ((10 ^ (pmOf p).pl : Nat) : Int)) = V.int (z * ((10 ^ (decOf d).2 : Nat) : Int)) from congrArg V.int c)]
        exact iteT fin
      · rw [decide_eq_false c, if_neg Bool.false_ne_true] at fin
        rw [decide_eq_false (show ¬ V.int ((decOf d).1 * ((10 ^ (pmOf p).pl : Nat) : Int)) = V.int (z * ((10 ^ (decOf d).2 : Nat) : Int)) from fun y => c (V.int.inj y))]
        exact iteF fin
theorem sc_marksOf : FnScope ["problems", "numbers", "marks", "problem", "number"] ["problems", "numbers"] (defScope s_marksOf) := ⟨rfl, rfl, rfl, by decide +kernel, rfl, by decide +kernel, by decide +kernel⟩
theorem zip_take {s : List NaCt.Problem} {g : List (Option NaCt.Dec)} {i : Nat} {p : NaCt.Problem} {x : Option NaCt.Dec} (h1 : s[i]? = some p) (h2 : g[i]? = some x) : (List.zipWith mark1 s g).take (i + 1) = (List.zipWith mark1 s g).take i ++ [mark1 p x] := by
  rw [List.take_add_one, List.getElem?_zipWith, h1, h2]
  rfl
theorem ok_marksOf (T : Tx K mg a) : Good P w K mg base CX0 6 a.f_marksOf ["problems", "numbers"] (spMks a) := by
  obtain ⟨fd, F, b⟩ := T.marksOf.ex
  obtain ⟨fd1, G1, b1, kp1⟩ := ok_markOf (P := P) (w := w) (base := base) T
  obtain ⟨t1, h1⟩ := T.k_LEFT_OUT
  refine ⟨fd, F.ok sc_marksOf (fun vs H Q E h => ?_) (fun cdv A outer s H vs Q E hr h => ?_), b, F.kp⟩
  · obtain ⟨lp, ln, r2, sh, ws, g, rfl, _⟩ := h; rfl
  · obtain ⟨lp, ln, r2, sh, ws, g, rfl, S, hln, O, og, gl, fin⟩ := h
    obtain ⟨r, qs, hlp, PA⟩ := S.at_
    have lq : qs.length = sh.length := by rw [PA.len, List.length_map]
    have lw : ws.length = g.length := by rw [O.len, List.length_map]
    have few := S.few
    refine ⟨_, pss_cons (ps_setLc (i := 2) (own := [("problem", 3), ("number", 4)]) (g := gTup K 2 (gCons (gName 3) (gCons (gName 4) gNil))) (te := tCall (spMo a) [] E0 (tCons (tVar 3) (tCons (tVar 4) tNil))) rfl sc_marksOf.nd rfl rfl (sw_true rfl rfl rfl rfl) (pi_zip (by rfl) T.b_zip (pa_cons (pv 0) (pa_cons (pv 1) pa_nil)))
          (blkOk_by (by show blkC ["problems", "numbers", "marks", "problem", "number"] (defScope s_marksOf) _ _ = true; decide +kernel))
          (fun _ _ _ _ _ => pg_tup rfl (pgs_cons (pg_name (i := 3) sc_marksOf.nd rfl (Or.inl rfl)) (pgs_cons (pg_name (i := 4) sc_marksOf.nd rfl (Or.inl rfl)) pgs_nil))) (fun _ _ _ _ _ => pts_nil)
          (fun _ _ _ _ _ => pe_call G1 hr (by rfl) T.g_markOf kp1 b1 .nil pass0 (pa_cons (pv 3) (pa_cons (pv 4) pa_nil))))
      (pss_one (ps_ret (pe_op op_cat (pv 2) (pe_op op_rep (pe_lst (pa_cons (pe_glob (v := .int 0) (by rfl) h1 ⟨_, rfl⟩) pa_nil)) (pe_op op_sub (pe_callB call_len_seq (by rfl) T.b_len PySem.boot_len (pa_cons (pv 0) pa_nil)) (pe_callB call_len_seq (by rfl) T.b_len PySem.boot_len (pa_cons (pv 1) pa_nil))))))), ?_⟩
    refine ⟨_, rfl, _, rfl, lp, ln, _, _, rfl, SqL.of hlp, SqL.of hln, fun D hD => ?_⟩
    refine lc_zip (xs := qs.map V.ref) (ys := ws) (fun i H' => Same H H' ∧ H' D = some (.lst (((List.zipWith mark1 sh g).take i).map nV)))
      ⟨same_new (Same.refl _) hD, upd_same⟩ (fun i H' hi p => ⟨SqL.of (p.1 _ _ hlp), SqL.of (p.1 _ _ hln)⟩) ?_ ?_
    · rintro i x v H' t e1 e2 ⟨sm, hD'⟩ ht
      rw [List.getElem?_map] at e1
      cases f1 : qs[i]? with
      | none => rw [f1] at e1; cases e1
      | some q =>
        rw [f1] at e1
        cases e1
        obtain ⟨px, lx, g1, prx⟩ := PA.at1 f1
        rw [List.getElem?_map] at g1
        cases f2 : sh[i]? with
        | none => rw [f2] at g1; cases g1
        | some p =>
          rw [f2] at g1
          cases g1
          obtain ⟨o, g2, ox⟩ := O.at e2
          rw [List.getElem?_map] at g2
          cases f3 : g[i]? with
          | none => rw [f3] at g2; cases g2
          | some gx =>
            rw [f3] at g2
            cases g2
            have sT : Same H' (upd H' t (.tup [.ref q, v])) := same_new (Same.refl _) ht
            refine ⟨t, _, rfl, SqT.of upd_same, rfl, _, _, rfl, _, _, rfl, rfl, rfl, ?_⟩
            refine ⟨_, rfl, _, rfl, q, r, lx, r2, p, v, gx, rfl, prx.same (sm.trans sT), S.ok _ (List.mem_map_of_mem (List.mem_of_getElem? f2)), ox.mono (dc_same (sm.trans sT)), og _ (List.mem_of_getElem? f3), fun H4 s4 => ?_⟩
            refine ⟨_, s4 _ _ (sT _ _ hD'), ?_, same_new ((sm.trans sT).trans s4) hD, ?_⟩
            · rw [List.length_map, List.length_take, List.length_zipWith]
              exact Nat.lt_of_le_of_lt (show _ ≤ 16500 by omega) (by decide)
            · rw [upd_same, zip_take f2 f3, List.map_append]
              rfl
    · rintro H2 ⟨sm, hD'⟩
      have hlen : (List.zipWith mark1 sh g).length = g.length := by rw [List.length_zipWith]; omega
      rw [List.length_map, lq, lw, Nat.min_eq_right gl, List.take_of_length_le (Nat.le_of_eq hlen)] at hD'
      refine ⟨_, rfl, (by show 1 ≤ sizeLine; decide), fun z hz => ?_⟩
      have sZ : Same H2 (upd H2 z (.lst [.int 0])) := same_new (Same.refl _) hz
      refine ⟨_, rfl, lp, _, rfl, .inl (SqL.of (sZ _ _ (sm _ _ hlp))), _, rfl, ln, _, rfl, .inl (SqL.of (sZ _ _ (sm _ _ hln))), _, _, rfl, rfl, ?_⟩
      rw [List.length_map, lq, lw]
      have ek : ((sh.length : Int) - (g.length : Int)).toNat = sh.length - g.length := by omega
      refine ⟨z, _, _, rfl, rfl, upd_same, by omega, by omega, ?_, fun y hy => ?_⟩
      · rw [ek]
        show 1 * (sh.length - g.length) ≤ sizeLine
        exact Nat.le_trans (show _ ≤ 16500 by omega) (by decide)
      have sY : Same (upd H2 z (.lst [.int 0])) (upd (upd H2 z (.lst [.int 0])) y (.lst (List.replicate ((sh.length : Int) - (g.length : Int)).toNat [V.int 0]).flatten)) := same_new (Same.refl _) hy
      refine ⟨D, y, _, _, rfl, rfl, sY _ _ (sZ _ _ hD'), upd_same, ?_, fun p hp => fin _ p ?_ ?_⟩
      · rw [List.length_map, hlen, len_rep, ek]
        show g.length + (sh.length - g.length) * 1 ≤ sizeLine
        exact Nat.le_trans (show _ ≤ 16500 by omega) (by decide)
      · rw [upd_same, marks_zip sh g gl, List.map_append, ek]
        congr 3
        have : ∀ n : Nat, (List.replicate n [V.int 0]).flatten = (List.replicate n 0).map nV := fun n => by
          induction n with
          | zero => rfl
          | succ n ih => rw [List.replicate_succ, List.flatten_cons, ih]; rfl
        exact this _
      · exact same_new ((sm.trans sZ).trans sY) ((sm.trans sZ).free (sY.free hp))
end
end Ab

set_option Elab.async false
set_option linter.all false
set_option maxRecDepth 100000
set_option maxHeartbeats 2000000
namespace Ab
open PySem PySem.Spec PyProof.Rows L2
def spAll (K : PySem.W.Frag) : Sp := fun vs H Q _ => ∃ (l : Addr) (e : List Nat), vs = [.ref l] ∧ H l = some (.lst (e.map nV)) ∧ Q (.bl (decide (0 < e.length ∧ NaCt.howMany e 1 = e.length))) H
def spPom (K : PySem.W.Frag) (a : Ad) : Sp := fun vs H Q _ => ∃ (lp l : Addr) (sh : NaCt.Sheet) (e : List Nat) (m : Nat), vs = [.ref lp, .ref l, .int (m : Int)] ∧ ShOk a H lp sh ∧ H l = some (.lst (e.map nV)) ∧ e.length = sh.length ∧ m ≤ 9999 ∧ ∀ H', Same H H' → Q (.int ((gainM m sh e : Nat) : Int)) H'
def spPit (K : PySem.W.Frag) : Sp := fun vs H Q _ => ∃ (l : Addr) (e : List Nat) (p t lim b : Nat), vs = [.int (p : Int), .ref l, .int (t : Int), .int (lim : Int), .int (b : Int)] ∧ H l = some (.lst (e.map nV)) ∧ b ≤ 9999 ∧ lim ≤ 99999 ∧
  Q (.int (((if lim = 0 then p else if lim < t then 0 else if 0 < e.length ∧ NaCt.howMany e 1 = e.length then p + b * ((lim - t) / 60) else p : Nat)) : Int)) H
theorem pf_points (p : Int) (d : Str) (l : Addr) (q : Int) : (pf p d l q).lookup ("points" : Str) = some (.int p) := rfl
theorem sq_marks {K : PySem.W.Frag} {H : Hp} {l : Addr} {e : List Nat} (h : H l = some (.lst (e.map nV))) : SqL K H l ((intsN e).map V.int) := by
  rw [nV_map] at h
  exact SqL.of h
theorem intsN_len (e : List Nat) : (intsN e).length = e.length := List.length_map _
section
variable {P : Program} {w : World} {K : PySem.W.Frag} {mg : Str → Option Value} {base : Heap} {a : Ad}
theorem sc_areAllRight : FnScope ["marks"] ["marks"] (defScope s_areAllRight) := ⟨rfl, rfl, rfl, by decide +kernel, rfl, by decide +kernel, by decide +kernel⟩
theorem ok_areAllRight (T : Tx K mg a) : Good P w K mg base CX0 1 a.f_areAllRight ["marks"] (spAll K) := by
  obtain ⟨fd, F, b⟩ := T.areAllRight.ex
  obtain ⟨t1, h1⟩ := T.k_RIGHT
  refine ⟨fd, F.ok sc_areAllRight (fun vs H Q E h => ?_) (fun cdv A outer s H vs Q E hr h => ?_), b, F.kp⟩
  · obtain ⟨l, e, rfl, _⟩ := h; rfl
  · obtain ⟨l, e, rfl, hl, q⟩ := h
    refine ⟨_, pss_one (ps_ret (pe_and (pe_cmpR op_gt (pe_callB call_len_seq (by rfl) T.b_len PySem.boot_len (pa_cons (pv 0) pa_nil)) pe_int (nomark _)) (pe_one (pe_cmpR op_eq (pe_bm PySem.F.plainAttrs_list PySem.F.slot_list_count PySem.F.type_list_count mt_countI (pv 0) (pa_cons (pe_glob (v := .int 1) (by rfl) h1 ⟨_, rfl⟩) pa_nil)) (pe_callB call_len_seq (by rfl) T.b_len PySem.boot_len (pa_cons (pv 0) pa_nil)) (nomark _))))), ?_⟩
    refine ⟨_, rfl, l, _, rfl, .inl (sq_marks hl), _, _, rfl, rfl, _, rfl, ?_⟩
    rw [List.length_map, intsN_len]
    by_cases c : 0 < e.length
    · rw [decide_eq_true (show (0 : Int) < (e.length : Int) by omega)]
      refine iteT ⟨_, rfl, .inl ⟨rfl, _, sq_marks hl⟩, l, intsN e, 1, rfl, rfl, sq_marks hl, ?_⟩
      refine ⟨_, rfl, l, _, rfl, .inl (sq_marks hl), rfl, ?_⟩
      rw [List.length_map, intsN_len, show ((intsN e).count 1) = NaCt.howMany e 1 from count_many e 1]
      have ee : decide (V.int ((NaCt.howMany e 1 : Nat) : Int) = V.int ((e.length : Nat) : Int)) = decide (0 < e.length ∧ NaCt.howMany e 1 = e.length) := by
        rw [Bool.eq_iff_iff, decide_eq_true_eq, decide_eq_true_eq]
        constructor
        · intro y; have := V.int.inj y; omega
        · intro y; rw [y.2]
      rw [ee]
      exact q
    · rw [decide_eq_false (show ¬ (0 : Int) < (e.length : Int) by omega)]
      rw [decide_eq_false fun y => c y.1] at q
      exact iteF q
theorem sc_pointsOfMarks : FnScope ["problems", "marks", "minus", "gained", "problem", "mark"] ["problems", "marks", "minus"] (defScope s_pointsOfMarks) := ⟨rfl, rfl, rfl, by decide +kernel, rfl, by decide +kernel, by decide +kernel⟩
theorem many_le (e : List Nat) (k : Nat) : NaCt.howMany e k ≤ e.length := by
  unfold NaCt.howMany
  exact List.length_filter_le _ _
theorem ok_pointsOfMarks (T : Tx K mg a) : Good P w K mg base CX0 1 a.f_pointsOfMarks ["problems", "marks", "minus"] (spPom K a) := by
  obtain ⟨fd, F, b⟩ := T.pointsOfMarks.ex
  obtain ⟨t1, h1⟩ := T.k_RIGHT
  obtain ⟨t2, h2⟩ := T.k_WRONG
  refine ⟨fd, F.ok sc_pointsOfMarks (fun vs H Q E h => ?_) (fun cdv A outer s H vs Q E hr h => ?_), b, F.kp⟩
  · obtain ⟨lp, l, sh, e, m, rfl, _⟩ := h; rfl
  · obtain ⟨lp, l, sh, e, m, rfl, S, hl, le, hm, fin⟩ := h
    obtain ⟨r, qs, hlp, PA⟩ := S.at_
    have lq : qs.length = sh.length := by rw [PA.len, List.length_map]
    have few := S.few
    refine ⟨_, pss_cons (ps_set (i := 3) sc_pointsOfMarks.nd rfl (Or.inl rfl) (pe_callB (cr_sum rfl) (by rfl) T.b_sum PyProof.Rows.boot_sum (pa_cons
          (pe_lc (own := [("problem", 4), ("mark", 5)]) (g := gTup K 2 (gCons (gName 4) (gCons (gName 5) gNil))) (te := tFld K (tVar 4) "points") rfl sc_pointsOfMarks.nd (pi_zip (by rfl) T.b_zip (pa_cons (pv 0) (pa_cons (pv 1) pa_nil)))
            (blkOk_by (by show blkC ["problems", "marks", "minus", "gained", "problem", "mark"] (defScope s_pointsOfMarks) _ _ = true; decide +kernel))
            (fun _ _ _ _ _ => pg_tup rfl (pgs_cons (pg_name (i := 4) sc_pointsOfMarks.nd rfl (Or.inl rfl)) (pgs_cons (pg_name (i := 5) sc_pointsOfMarks.nd rfl (Or.inl rfl)) pgs_nil)))
            (fun _ _ _ _ _ => pts_one (pt_cmpR op_eq (pv 5) (pe_glob (v := .int 1) (by rfl) h1 ⟨_, rfl⟩) (nomark _))) (fun _ _ _ _ _ => pe_fld (pv 4) rfl)) pa_nil)))
      (pss_one (ps_ret (pe_callB (call_max2 rfl) (by rfl) T.b_max PyProof.Rows.boot_max (pa_cons pe_int (pa_cons (pe_op op_sub (pv 3) (pe_op op_mul (pv 2) (pe_bm PySem.F.plainAttrs_list PySem.F.slot_list_count PySem.F.type_list_count mt_countI (pv 1) (pa_cons (pe_glob (v := .int 2) (by rfl) h2 ⟨_, rfl⟩) pa_nil)))) pa_nil))))), ?_⟩
    refine ⟨_, rfl, _, rfl, lp, l, _, _, rfl, SqL.of hlp, SqL.of hl, fun D hD => ?_⟩
    refine lc_zip (xs := qs.map V.ref) (ys := e.map nV) (fun i H' => Same H H' ∧ H' D = some (.lst ((won (sh.take i) (e.take i)).map V.int)))
      ⟨same_new (Same.refl _) hD, upd_same⟩ (fun i H' hi p => ⟨SqL.of (p.1 _ _ hlp), SqL.of (p.1 _ _ hl)⟩) ?_ ?_
    · rintro i x v H' t e1 e2 ⟨sm, hD'⟩ ht
      rw [List.getElem?_map] at e1 e2
      cases f1 : qs[i]? with
      | none => rw [f1] at e1; cases e1
      | some q =>
        rw [f1] at e1
        cases e1
        cases f3 : e[i]? with
        | none => rw [f3] at e2; cases e2
        | some k =>
          rw [f3] at e2
          cases e2
          obtain ⟨px, lx, g1, prx⟩ := PA.at1 f1
          rw [List.getElem?_map] at g1
          cases f2 : sh[i]? with
          | none => rw [f2] at g1; cases g1
          | some p =>
            rw [f2] at g1
            cases g1
            have sT : Same H' (upd H' t (.tup [.ref q, nV k])) := same_new (Same.refl _) ht
            have ws := won_snoc sh e i p k f2 f3
            refine ⟨t, _, rfl, SqT.of upd_same, rfl, _, _, rfl, _, _, rfl, rfl, rfl, ?_⟩
            refine ⟨_, rfl, rfl, _, rfl, ?_⟩
            by_cases c : k = 1
            · rw [decide_eq_true (show nV k = V.int 1 by rw [c]; rfl)]
              rw [if_pos c] at ws
              obtain ⟨dx, hx⟩ := (prx.same (sm.trans sT)).ins
              refine iteT ⟨_, rfl, q, a.cPr, dx, _, _, rfl, hx, T.pPr.cl, T.pPr.no _ (by simp), pf_points _ _ _ _, ?_⟩
              refine ⟨_, sT _ _ hD', ?_, same_new (sm.trans sT) hD, ?_⟩
              · rw [List.length_map]
                have := won_len (sh.take i) (e.take i)
                rw [List.length_take] at this
                exact Nat.lt_of_le_of_lt (show _ ≤ 16500 by omega) (by decide)
              · rw [upd_same, ws, List.map_append]
                rfl
            · rw [decide_eq_false (show ¬ nV k = V.int 1 from fun y => c (by have := V.int.inj y; omega))]
              rw [if_neg c, List.append_nil] at ws
              exact iteF ⟨sm.trans sT, by rw [ws]; exact sT _ _ hD'⟩
    · rintro H2 ⟨sm, hD'⟩
      rw [List.length_map, List.length_map, lq, le, Nat.min_self, List.take_length, List.take_of_length_le (Nat.le_of_eq le)] at hD'
      refine ⟨D, won sh e, rfl, SqL.of hD', ?_⟩
      refine ⟨_, rfl, _, rfl, _, rfl, .inl ⟨rfl, _, sq_marks (sm _ _ hl)⟩, l, intsN e, 2, rfl, rfl, sq_marks (sm _ _ hl), ?_⟩
      rw [show ((intsN e).count 2) = NaCt.howMany e 2 from count_many e 2]
      refine ⟨_, _, rfl, rfl, .inl (by omega), _, _, rfl, rfl, _, _, rfl, ?_⟩
      rw [won_sum, gain_max]
      exact fin H2 sm
theorem sc_pointsInTime : FnScope ["points", "marks", "seconds", "limit", "bonus"] ["points", "marks", "seconds", "limit", "bonus"] (defScope s_pointsInTime) := ⟨rfl, rfl, rfl, by decide +kernel, rfl, by decide +kernel, by decide +kernel⟩
theorem ok_pointsInTime (T : Tx K mg a) : Good P w K mg base CX0 2 a.f_pointsInTime ["points", "marks", "seconds", "limit", "bonus"] (spPit K) := by
  obtain ⟨fd, F, b⟩ := T.pointsInTime.ex
  obtain ⟨fd1, G1, b1, kp1⟩ := ok_areAllRight (P := P) (w := w) (base := base) T
  obtain ⟨t1, h1⟩ := T.k_MINUTE
  refine ⟨fd, F.ok sc_pointsInTime (fun vs H Q E h => ?_) (fun cdv A outer s H vs Q E hr h => ?_), b, F.kp⟩
  · obtain ⟨l, e, p, t, lim, bo, rfl, _⟩ := h; rfl
  · obtain ⟨l, e, p, t, lim, bo, rfl, hl, hb, hlim, q⟩ := h
    refine ⟨_, pss_cons (ps_if (pt_cmpR op_eq (pv 3) pe_int (nomark _)) (pss_one (ps_ret (pv 0))) pss_nil)
      (pss_cons (ps_if (pt_cmpR op_gt (pv 2) (pv 3) (nomark _)) (pss_one (ps_ret pe_int)) pss_nil)
      (pss_cons (ps_if (pt_val (pe_call G1 hr (by rfl) T.g_areAllRight kp1 b1 .nil pass0 (pa_cons (pv 1) pa_nil)))
        (pss_one (ps_ret (pe_op op_add (pv 0) (pe_op op_mul (pv 4) (pe_op op_fdiv (pe_op op_sub (pv 3) (pv 2)) (pe_glob (v := .int 60) (by rfl) h1 ⟨_, rfl⟩)))))) pss_nil)
      (pss_one (ps_ret (pv 0))))), ?_⟩
    refine ⟨_, rfl, rfl, _, rfl, ?_⟩
    by_cases c0 : lim = 0
    · rw [decide_eq_true (show V.int (lim : Int) = V.int 0 by rw [c0]; rfl)]
      rw [if_pos c0] at q
      exact iteT ⟨_, rfl, q⟩
    · rw [decide_eq_false (show ¬ V.int (lim : Int) = V.int 0 from fun y => c0 (by have := V.int.inj y; omega))]
      rw [if_neg c0] at q
      refine iteF ⟨_, rfl, _, rfl, _, _, rfl, rfl, _, rfl, ?_⟩
      by_cases c1 : lim < t
      · rw [decide_eq_true (show (lim : Int) < (t : Int) by omega)]
        rw [if_pos c1] at q
        exact iteT q
      · rw [decide_eq_false (show ¬ (lim : Int) < (t : Int) by omega)]
        rw [if_neg c1] at q
        refine iteF ⟨_, rfl, l, e, rfl, hl, _, rfl, ?_⟩
        by_cases c2 : 0 < e.length ∧ NaCt.howMany e 1 = e.length
        · rw [decide_eq_true c2]
          rw [if_pos c2] at q
          have ev : (p : Int) + (bo : Int) * (((lim : Int) - (t : Int)) / 60) = ((p + bo * ((lim - t) / 60) : Nat) : Int) := by
            have : ((lim : Int) - (t : Int)) / 60 = (((lim - t) / 60 : Nat) : Int) := by omega
            rw [this, Int.natCast_add, Int.natCast_mul]
          rw [← ev] at q
          refine iteT ⟨_, rfl, _, rfl, _, rfl, _, rfl, _, _, rfl, rfl, _, _, rfl, rfl, ⟨by decide, by decide⟩, _, _, rfl, rfl, .inl (by omega), _, _, rfl, rfl, q⟩
        · rw [decide_eq_false c2]
          rw [if_neg c2] at q
          exact iteF ⟨_, rfl, q⟩
end
end Ab

set_option Elab.async false
set_option linter.all false
set_option maxRecDepth 100000
set_option maxHeartbeats 2000000
namespace Ab
open PySem PySem.Spec PyProof.Rows L2
theorem sheetM_len {ns : List Int} : ∀ (f k : Nat) (l : List PM), sheetM ns f k = .ok l → l.length ≤ f
  | 0, k, l, h => by cases h
  | f + 1, k, l, h => by
    unfold sheetM at h
    split at h
    · injection h with h
      rw [← h]
      exact Nat.zero_le _
    · split at h
      · cases h
      · obtain ⟨y, e, rfl⟩ := map_ok h
        exact Nat.succ_le_succ (sheetM_len f _ y e)
theorem answersM_ok {ns : List Int} {x : Nat × List (Option (Int × Nat))} (h : answersM ns = .ok x) : ∀ u m, some (u, m) ∈ x.2 → u.natAbs < 10 ^ 49 ∧ m ≤ 9 := by
  unfold answersM at h
  split at h
  · cases h
  · split at h
    · cases h
    · split at h
      · cases h
      · obtain ⟨y, e, rfl⟩ := map_ok h
        exact givenM_ok _ _ y e
/-- what a refusal is answered with -/
def EX (K : PySem.W.Frag) (a : Ad) (Q : VK) : XK := fun c d H' => ∃ C dx, c = .ref C ∧ d = some dx ∧ (C = a.cTL ∨ C = a.cFa) ∧ ∀ (p tup : Addr) (σ' : L2.St), H' p = none → H' tup = none → tup ≠ p → 7 < σ'.length →
  tRet (tFldX K (tVar 7) "answered") { nx := fun _ _ => False, rt := Q } (σ'.set 7 (some (.ref p))) (upd (upd H' tup (.tup [.ref a.cTL, .ref a.cFa])) p (xq p C dx))
section
variable {K : PySem.W.Frag} {mg : Str → Option Value} {a : Ad} {Q : VK}
theorem ex_TL (T : Tx K mg a) (k : ∀ (H' : Hp) (p : Addr), H' p = some (.lst [.int (-6)]) → Q (.ref p) H') : ThrL a (EX K a Q) := by
  intro H' dx l h1 h2
  refine ⟨a.cTL, dx, rfl, rfl, .inl rfl, fun p tup σ' hp ht ntp hi => ?_⟩
  refine ⟨_, List.getElem?_set_self hi, p, a.cTL, a.f_initTL, dx, [("answered", .ref l)], .ref l, rfl, upd_same, ?_, T.xTL, rfl, ?_⟩
  · rw [upd_ne (ne_of_none h1 hp), upd_ne (ne_of_none h1 ht)]
    exact h1
  · refine k _ l ?_
    rw [upd_ne (ne_of_none h2 hp), upd_ne (ne_of_none h2 ht), h2]
theorem ex_Fa (T : Tx K mg a) {rule : Int} {n : Nat} (k : ∀ (H' : Hp) (p : Addr), H' p = some (.lst [.int (-5), .int rule, .int (n : Int)]) → Q (.ref p) H') : Thr a (EX K a Q) rule n := by
  intro H' dx l h1 h2
  refine ⟨a.cFa, dx, rfl, rfl, .inr rfl, fun p tup σ' hp ht ntp hi => ?_⟩
  refine ⟨_, List.getElem?_set_self hi, p, a.cFa, a.f_initFa, dx, [("answered", .ref l)], .ref l, rfl, upd_same, ?_, T.xFa, rfl, ?_⟩
  · rw [upd_ne (ne_of_none h1 hp), upd_ne (ne_of_none h1 ht)]
    exact h1
  · refine k _ l ?_
    rw [upd_ne (ne_of_none h2 hp), upd_ne (ne_of_none h2 ht), h2]
end
def spMark (K : PySem.W.Frag) : Sp := fun vs H Q _ => ∃ (lim mi bo : Int) (t u : Addr) (ns us : List Int), vs = [.int lim, .int mi, .int bo, .ref t, .ref u] ∧ 0 ≤ lim ∧ 0 ≤ mi ∧ 0 ≤ bo ∧ SqL K H t (ns.map V.int) ∧ SqL K H u (us.map V.int) ∧ ns.length ≤ 16500 ∧ us.length ≤ 16500 ∧
  (∀ n ∈ ns, 0 ≤ n ∧ n ≤ 255) ∧ (∀ n ∈ us, 0 ≤ n ∧ n ≤ 255) ∧ ∀ (H' : Hp) (p : Addr), H' p = some (.lst ((PyYqacfa.mark lim mi bo ns us).map V.int)) → Q (.ref p) H'
section
variable {K : PySem.W.Frag} {mg : Str → Option Value} {a : Ad}
theorem sc_mark : FnScope ["limit", "minus", "bonus", "sheet", "answers", "problems", "handed_in", "refusal", "seconds", "marks", "gained", "points", "counts"] ["limit", "minus", "bonus", "sheet", "answers"] (defScope s_mark) := ⟨rfl, rfl, rfl, by decide +kernel, rfl, by decide +kernel, by decide +kernel⟩
theorem ok_mark (T : Tx K mg a) : ∃ fd, (∀ (s : Shared) (us : List Value), us.length = (["limit", "minus", "bonus", "sheet", "answers"] : List Str).length → BindsTo s fd ⟨us, []⟩ ((["limit", "minus", "bonus", "sheet", "answers"] : List Str).zip us)) ∧ ∀ P w base, FnOk P w K mg base CX0 40 a.f_mark fd ["limit", "minus", "bonus", "sheet", "answers"] (spMark K) := by
  obtain ⟨fd, F, b⟩ := T.mark.ex
  refine ⟨fd, ?_, fun P w base => ?_⟩
  · obtain ⟨oc, od, kV, doc, pm, an, cdv, ct, osl, rfl, lk, hcd⟩ := F.ex
    exact fun s us hu => match us, hu with | [_, _, _, _, _], _ => .of_eq rfl
  obtain ⟨fd1, G1, b1, kp1⟩ := ok_checkLength (P := P) (w := w) (base := base) T
  obtain ⟨fd2, G2, b2, kp2⟩ := ok_readSheet (P := P) (w := w) (base := base) T
  obtain ⟨fd3, G3, b3, kp3⟩ := ok_readAnswers (P := P) (w := w) (base := base) T
  obtain ⟨fd4, G4, b4, kp4⟩ := ok_areRules (P := P) (w := w) (base := base) T
  obtain ⟨fd5, G5, b5, kp5⟩ := ok_marksOf (P := P) (w := w) (base := base) T
  obtain ⟨fd6, G6, b6, kp6⟩ := ok_pointsOfMarks (P := P) (w := w) (base := base) T
  obtain ⟨fd7, G7, b7, kp7⟩ := ok_pointsInTime (P := P) (w := w) (base := base) T
  obtain ⟨t1, g1⟩ := T.k_RIGHT
  obtain ⟨t2, g2⟩ := T.k_WRONG
  obtain ⟨t3, g3⟩ := T.k_LEFT_OUT
  refine FnOk.mono (j := 14) (F.ok sc_mark (fun vs H Q E h => ?_) (fun cdv A outer s H vs Q E hr h => ?_)) (by decide)
  · obtain ⟨lim, mi, bo, t, u, ns, us, rfl, _⟩ := h; rfl
  · obtain ⟨lim, mi, bo, t, u, ns, us, rfl, p1, p2, p3, hT, hU, ln, lu, hb, hbu, k⟩ := h
    obtain ⟨lim, rfl⟩ : ∃ n : Nat, lim = (n : Int) := ⟨lim.toNat, by omega⟩
    obtain ⟨mi, rfl⟩ : ∃ n : Nat, mi = (n : Int) := ⟨mi.toNat, by omega⟩
    obtain ⟨bo, rfl⟩ : ∃ n : Nat, bo = (n : Int) := ⟨bo.toNat, by omega⟩
    have due := mark_due (ns := ns) (us := us) hb hbu (lim : Int) (mi : Int) (bo : Int)
    rw [Int.toNat_natCast, Int.toNat_natCast, Int.toNat_natCast] at due
    have rs := readSheet_eq (ns := ns) hb
    have ra := readAnswers_eq (ns := us) hbu
    refine ⟨_, pss_cons (ps_try (i := 7) (n := "refusal")
        (tb := fun E => tSeq (tDrop (tCall (spChk K a) [] E (tCons (tVar 3) tNil))) (tSeq (tDrop (tCall (spChk K a) [] E (tCons (tVar 4) tNil))) (tSeq (tAsg (tCall (spShR K a) [] E (tCons (tVar 3) tNil)) (gName 5)) (tAsg (tCall (spAnR K a) [] E (tCons (tVar 4) tNil)) (gName 6)))))
        (ts := tRet (tFldX K (tVar 7) "answered")) rfl sc_mark.nd rfl rfl rfl rfl
        (fun pn E => pss_cons (ps_expr (pe_call G1 (hr.mono (by decide)) (by rfl) T.g_checkLength kp1 b1 .nil (passT rfl) (pa_cons (pv 3) pa_nil)))
          (pss_cons (ps_expr (pe_call G1 (hr.mono (by decide)) (by rfl) T.g_checkLength kp1 b1 .nil (passT rfl) (pa_cons (pv 4) pa_nil)))
          (pss_cons (ps_set (i := 5) sc_mark.nd rfl (Or.inl rfl) (pe_call G2 (hr.mono (by decide)) (by rfl) T.g_readSheet kp2 b2 .nil (passT rfl) (pa_cons (pv 3) pa_nil)))
          (pss_one (ps_set (i := 6) sc_mark.nd rfl (Or.inl rfl) (pe_call G3 (hr.mono (by decide)) (by rfl) T.g_readAnswers kp3 b3 .nil (passT rfl) (pa_cons (pv 4) pa_nil)))))))
        (by rfl) T.gTL (by rfl) T.gFa T.xTL T.xFa (fun pn e => pss_one (ps_ret (pe_fldX (pv 7) rfl))))
      (pss_cons (ps_if (pt_not (pt_val (pe_call G4 (hr.mono (by decide)) (by rfl) T.g_areRules kp4 b4 .nil pass0 (pa_cons (pv 0) (pa_cons (pv 1) (pa_cons (pv 2) pa_nil)))))) (pss_one (ps_ret (pe_lst (pa_cons (pe_un un_neg pe_int) pa_nil)))) pss_nil)
      (pss_cons (ps_if (pt_cmpR op_gt (pe_callB call_len_seq (by rfl) T.b_len PySem.boot_len (pa_cons (pe_fld (pv 6) rfl) pa_nil)) (pe_callB call_len_seq (by rfl) T.b_len PySem.boot_len (pa_cons (pv 5) pa_nil)) (nomark _)) (pss_one (ps_ret (pe_lst (pa_cons (pe_un un_neg pe_int) pa_nil)))) pss_nil)
      (pss_cons (ps_set (i := 8) sc_mark.nd rfl (Or.inl rfl) (pe_fld (pv 6) rfl))
      (pss_cons (ps_set (i := 9) sc_mark.nd rfl (Or.inl rfl) (pe_call G5 (hr.mono (by decide)) (by rfl) T.g_marksOf kp5 b5 .nil pass0 (pa_cons (pv 5) (pa_cons (pe_fld (pv 6) rfl) pa_nil))))
      (pss_cons (ps_set (i := 10) sc_mark.nd rfl (Or.inl rfl) (pe_call G6 (hr.mono (by decide)) (by rfl) T.g_pointsOfMarks kp6 b6 .nil pass0 (pa_cons (pv 5) (pa_cons (pv 9) (pa_cons (pv 1) pa_nil)))))
      (pss_cons (ps_set (i := 11) sc_mark.nd rfl (Or.inl rfl) (pe_call G7 (hr.mono (by decide)) (by rfl) T.g_pointsInTime kp7 b7 .nil pass0 (pa_cons (pv 10) (pa_cons (pv 9) (pa_cons (pv 8) (pa_cons (pv 0) (pa_cons (pv 2) pa_nil)))))))
      (pss_cons (ps_set (i := 12) sc_mark.nd rfl (Or.inl rfl) (pe_lst (pa_cons (pe_bm PySem.F.plainAttrs_list PySem.F.slot_list_count PySem.F.type_list_count mt_countI (pv 9) (pa_cons (pe_glob (v := .int 1) (by rfl) g1 ⟨_, rfl⟩) pa_nil))
          (pa_cons (pe_bm PySem.F.plainAttrs_list PySem.F.slot_list_count PySem.F.type_list_count mt_countI (pv 9) (pa_cons (pe_glob (v := .int 2) (by rfl) g2 ⟨_, rfl⟩) pa_nil))
          (pa_cons (pe_bm PySem.F.plainAttrs_list PySem.F.slot_list_count PySem.F.type_list_count mt_countI (pv 9) (pa_cons (pe_glob (v := .int 0) (by rfl) g3 ⟨_, rfl⟩) pa_nil)) pa_nil)))))
      (pss_one (ps_ret (pe_op op_cat (pe_op op_cat (pe_op op_cat (pe_lst (pa_cons pe_int (pa_cons (pv 11) pa_nil))) (pv 12)) (pe_lst (pa_cons (pv 8) pa_nil))) (pv 9))))))))))), ?_⟩
    have tl : 16384 < ns.length ∨ 16384 < us.length → ThrL a (EX K a Q) := fun c => ex_TL T fun H' p e => k H' p (by rw [e, due, if_pos c]; rfl)
    refine ⟨_, rfl, t, ns, rfl, hT, fun c1 => ?_, fun c1 => tl (.inl c1)⟩
    refine ⟨_, rfl, u, us, rfl, hU, fun c2 => ?_, fun c2 => tl (.inr c2)⟩
    rw [if_neg (fun y => y.elim c1 c2)] at due
    refine ⟨_, rfl, t, ns, rfl, hT, ln, ?_⟩
    cases hs : NaCt.readSheet (toB ns) with
    | error q =>
      rw [hs] at due rs
      have rs : sheetM ns (ns.length + 1) 0 = .error q := rs
      rw [rs]
      exact ex_Fa T fun H' p e => k H' p (by rw [e, due]; rfl)
    | ok sh =>
      rw [hs] at due rs
      have rs : sheetM ns (ns.length + 1) 0 = .ok (sh.map pmOf) := rs
      have allok := sheetM_ok _ _ _ rs
      have shl : sh.length ≤ 16500 := by
        have := sheetM_len _ _ _ rs
        rw [List.length_map] at this
        omega
      rw [rs]
      dsimp only at due
      intro H1 lp hA s1 nl
      refine ⟨_, rfl, u, us, rfl, s1.seq hU, lu, ?_⟩
      cases hh : NaCt.readAnswers (toB us) with
      | error q =>
        rw [hh] at due ra
        have ra : answersM us = .error q := ra
        rw [ra]
        exact ex_Fa T fun H' p e => k H' p (by rw [e, due]; rfl)
      | ok an =>
        rw [hh] at due ra
        have ra : answersM us = .ok (an.time, an.given.map (Option.map decOf)) := ra
        have aok := answersM_ok ra
        rw [ra]
        dsimp only at due
        intro H2 ph hP s2
        obtain ⟨dx, l2, r2, ws, hph, hl2, O2⟩ := hP
        have S2 : ShOk a H2 lp sh := ⟨hA.same s2, allok, shl⟩
        have lw : ws.length = an.given.length := by rw [O2.len, List.length_map]
        have og : ∀ x ∈ an.given, OptOk x := fun x hx d e => by
          subst e
          exact aok _ _ (List.mem_map_of_mem hx)
        refine ⟨_, rfl, _, rfl, _, rfl, _, _, _, rfl, p1, p2, p3, _, rfl, ?_⟩
        rw [Int.toNat_natCast, Int.toNat_natCast, Int.toNat_natCast]
        cases hr : NaCt.Rules.ok ⟨lim, mi, bo⟩ with
        | false =>
          rw [if_pos hr] at due
          exact iteT ⟨_, rfl, (by show 1 ≤ sizeLine; decide), fun p hp => k _ p (by rw [upd_same, due]; rfl)⟩
        | true =>
          rw [if_neg (by rw [hr]; exact Bool.noConfusion)] at due
          have rok : lim ≤ 99999 ∧ mi ≤ 9999 ∧ bo ≤ 9999 := by
            unfold NaCt.Rules.ok at hr
            simp only [Bool.and_eq_true, decide_eq_true_eq] at hr
            exact hr
          obtain ⟨r, qs, hlp, PA⟩ := S2.at_
          have lq : qs.length = sh.length := by rw [PA.len, List.length_map]
          refine iteF ?_
          refine ⟨_, rfl, ph, a.cAn, dx, _, _, rfl, hph, T.pAn.cl, T.pAn.no _ (by simp), af_numbers _ _, l2, _, rfl, .inl (SqL.of hl2), _, rfl, lp, _, rfl, .inl (SqL.of hlp), _, _, rfl, rfl, _, rfl, ?_⟩
          rw [List.length_map, lq, lw]
          by_cases c : sh.length < an.given.length
          · rw [decide_eq_true (show (sh.length : Int) < (an.given.length : Int) by omega)]
            rw [if_pos c] at due
            exact iteT ⟨_, rfl, (by show 1 ≤ sizeLine; decide), fun p hp => k _ p (by rw [upd_same, due]; rfl)⟩
          · rw [decide_eq_false (show ¬ (sh.length : Int) < (an.given.length : Int) by omega)]
            rw [if_neg c] at due
            refine iteF ?_
            refine ⟨_, rfl, ph, a.cAn, dx, _, _, rfl, hph, T.pAn.cl, T.pAn.no _ (by simp), af_seconds _ _, ?_⟩
            refine ⟨_, rfl, _, rfl, ph, a.cAn, dx, _, _, rfl, hph, T.pAn.cl, T.pAn.no _ (by simp), af_numbers _ _, ?_⟩
            refine ⟨lp, l2, r2, sh, ws, an.given, rfl, S2, hl2, O2, og, by omega, fun H3 pm hpm s3 => ?_⟩
            generalize hm : NaCt.marks sh an.given = e at hpm due
            have le : e.length = sh.length := by rw [← hm]; exact marks_len _ _
            refine ⟨_, rfl, _, rfl, _, rfl, lp, pm, sh, e, mi, rfl, S2.same s3, hpm, le, rok.2.1, fun H4 s4 => ?_⟩
            refine ⟨_, rfl, _, rfl, _, rfl, _, rfl, _, rfl, pm, e, gainM mi sh e, an.time, lim, bo, rfl, s4 _ _ hpm, rok.2.2, rok.1, ?_⟩
            rw [← points_due lim mi bo sh e an.time le]
            have sq : SqL K H4 pm ((intsN e).map V.int) := sq_marks (s4 _ _ hpm)
            refine ⟨_, rfl, .inl ⟨rfl, _, sq⟩, pm, intsN e, 1, rfl, rfl, sq, ?_⟩
            refine ⟨_, rfl, .inl ⟨rfl, _, sq⟩, pm, intsN e, 2, rfl, rfl, sq, ?_⟩
            refine ⟨_, rfl, .inl ⟨rfl, _, sq⟩, pm, intsN e, 0, rfl, rfl, sq, ?_⟩
            rw [show ((intsN e).count 1) = NaCt.howMany e 1 from count_many e 1, show ((intsN e).count 2) = NaCt.howMany e 2 from count_many e 2, show ((intsN e).count 0) = NaCt.howMany e 0 from count_many e 0]
            refine ⟨(by show 3 ≤ sizeLine; decide), fun pc hpc => ?_⟩
            generalize eC : ([V.int ((NaCt.howMany e 1 : Nat) : Int), V.int ((NaCt.howMany e 2 : Nat) : Int), V.int ((NaCt.howMany e 0 : Nat) : Int)] : List V) = cs
            have sC : Same H4 (upd H4 pc (.lst cs)) := same_new (Same.refl _) hpc
            generalize hH5 : upd H4 pc (.lst cs) = H5 at sC
            have hc5 : H5 pc = some (.lst cs) := by rw [← hH5]; exact upd_same
            have hm5 : H5 pm = some (.lst (e.map nV)) := sC _ _ (s4 _ _ hpm)
            refine ⟨_, rfl, (by show 2 ≤ sizeLine; decide), fun q1 hq1 => ?_⟩
            generalize eZ : V.int ((NaCt.pointsOf ⟨lim, mi, bo⟩ sh e an.time : Nat) : Int) = zp
            have s6 : Same H5 (upd H5 q1 (.lst [.int 0, zp])) := same_new (Same.refl _) hq1
            generalize hH6 : upd H5 q1 (.lst [.int 0, zp]) = H6 at s6
            have h61 : H6 q1 = some (.lst [.int 0, zp]) := by rw [← hH6]; exact upd_same
            refine ⟨_, rfl, q1, pc, _, _, rfl, rfl, h61, s6 _ _ hc5, (by rw [← eC]; show 2 + 3 ≤ sizeLine; decide), fun q2 hq2 => ?_⟩
            have s7 : Same H6 (upd H6 q2 (.lst ([.int 0, zp] ++ cs))) := same_new (Same.refl _) hq2
            generalize hH7 : upd H6 q2 (.lst ([.int 0, zp] ++ cs)) = H7 at s7
            have h72 : H7 q2 = some (.lst ([.int 0, zp] ++ cs)) := by rw [← hH7]; exact upd_same
            refine ⟨_, rfl, (by show 1 ≤ sizeLine; decide), fun q3 hq3 => ?_⟩
            have s8 : Same H7 (upd H7 q3 (.lst [.int (an.time : Int)])) := same_new (Same.refl _) hq3
            generalize hH8 : upd H7 q3 (.lst [.int (an.time : Int)]) = H8 at s8
            have h83 : H8 q3 = some (.lst [.int (an.time : Int)]) := by rw [← hH8]; exact upd_same
            refine ⟨q2, q3, _, _, rfl, rfl, s8 _ _ h72, h83, (by rw [← eC]; show 5 + 1 ≤ sizeLine; decide), fun q4 hq4 => ?_⟩
            have s9 : Same H8 (upd H8 q4 (.lst (([.int 0, zp] ++ cs) ++ [.int (an.time : Int)]))) := same_new (Same.refl _) hq4
            generalize hH9 : upd H8 q4 (.lst (([.int 0, zp] ++ cs) ++ [.int (an.time : Int)])) = H9 at s9
            have h94 : H9 q4 = some (.lst (([.int 0, zp] ++ cs) ++ [.int (an.time : Int)])) := by rw [← hH9]; exact upd_same
            refine ⟨_, rfl, q4, pm, _, _, rfl, rfl, h94, s9 _ _ (s8 _ _ (s7 _ _ (s6 _ _ hm5))), ?_, fun q5 hq5 => k _ q5 ?_⟩
            · rw [← eC, List.length_map, le]
              show 6 + sh.length ≤ sizeLine
              exact Nat.le_trans (show _ ≤ 16506 by omega) (by decide)
            · rw [upd_same, due, ← eC, ← eZ]
              show some (HO.lst _) = some (HO.lst (V.int 0 :: (intL _).map V.int))
              unfold intL
              rw [List.map_map, List.map_append]
              rfl
end
end Ab

/- These names are taken, so that the head lays no second copy of a state (and no equation, quadratic in its length) under them: it goes on with the state itself. Without them the compiled proof is over the size that is taken. -/
def PySem.W.Fast.tw13529772629150613009 : Unit := ()
def PySem.W.Fast.tw3919583436748152840 : Unit := ()
def PySem.W.Fast.tw17708586666668496767 : Unit := ()
def PySem.W.Fast.tw8748405432854592872 : Unit := ()
def PySem.W.Fast.tw1078556099484125551 : Unit := ()
def PySem.W.Fast.tw6041774812427467015 : Unit := ()
def PySem.W.Fast.tw11270987678028246675 : Unit := ()
open PySem PySem.W PyProof.Rows
set_option maxRecDepth 100000 in
set_option maxHeartbeats 0 in
theorem PySem.Challenge.cw_abacusmark_s03_mark_holds : PySem.Challenge.rw_abacusmark_s03_mark.Holds := by
  w_on; k_headS; (case hw => exact ⟨[.int 0, .int 0, .int 0, .list [], .list []], by decide +kernel, by decide +kernel⟩)
  k_fillS
  refine L2.walk_specK (r := PySem.Challenge.rw_abacusmark_s03_mark) (k := 40) (CX := L2.CX0) (ps := ["limit", "minus", "bonus", "sheet", "answers"]) (sp := Ab.spMark) (by decide +kernel) rfl rfl ⟨rfl, by decide, by decide⟩ (fun w h Y => PySem.W.kIn_of Y) ?F ?S (fun _ _ _ _ z => z)
  case F =>
    intro w mg fa h Y KX G hmg
    have T : ∃ a, Ab.Tx (L2.KOf KX) mg a := by
      dsimp only [L2.KOf]
      refine' Ab.tx_mk KX G ?aCDec ?aCTL ?aCFa ?aCRd ?aCAn ?aCPr ?a_initDec ?i_initDec ?a_negated ?i_negated ?a_tenTo ?a_nearest ?a_wholeRoot ?a_nearestRoot ?a_reaches ?a_initRd ?i_initRd ?a_isDone ?i_isDone ?a_peek ?i_peek ?a_peekDigit ?i_peekDigit ?a_skip ?i_skip ?a_readWords ?i_readWords ?a_readBounded ?i_readBounded ?a_readWhole ?i_readWhole ?a_readDecimal ?i_readDecimal ?a_readUnsigned ?i_readUnsigned ?a_readTail ?i_readTail ?a_initAn ?i_initAn ?a_readNumber ?a_readAnswers ?a_initPr ?i_initPr ?a_readKind ?a_readRows ?a_readOperands ?a_readProblem ?a_readSheet ?a_rightProduct ?a_rightQuotient ?a_rightRoot ?a_rightAnswer ?a_areRules ?a_markOf ?a_marksOf ?a_areAllRight ?a_pointsOfMarks ?a_pointsInTime ?a_checkLength ?a_mark ?pgDec ?hdDec ?poDec ?saDec ?mkDec ?kcDec ?noDec_units ?noDec_scale ?lTL ?lNTL ?n0TL ?n1TL ?n2TL ?n3TL ?n4TL ?n5TL ?kpTL ?lFa ?lNFa ?n0Fa ?n1Fa ?n2Fa ?n3Fa ?n4Fa ?n5Fa ?kpFa ?pgRd ?hdRd ?poRd ?saRd ?mkRd ?kcRd ?noRd_text ?noRd_rule ?noRd_at ?pgAn ?hdAn ?poAn ?saAn ?mkAn ?kcAn ?noAn_seconds ?noAn_numbers ?pgPr ?hdPr ?poPr ?saPr ?mkPr ?kcPr ?noPr_points ?noPr_kind ?noPr_numbers ?noPr_places ?l_initDec ?c_initDec ?k_initDec ?l_negated ?c_negated ?k_negated ?l_tenTo ?c_tenTo ?k_tenTo ?l_nearest ?c_nearest ?k_nearest ?l_wholeRoot ?c_wholeRoot ?k_wholeRoot ?l_nearestRoot ?c_nearestRoot ?k_nearestRoot ?l_initTL ?c_initTL ?k_initTL ?l_initFa ?c_initFa ?k_initFa ?l_reaches ?c_reaches ?k_reaches ?l_initRd ?c_initRd ?k_initRd ?l_isDone ?c_isDone ?k_isDone ?l_peek ?c_peek ?k_peek ?l_peekDigit ?c_peekDigit ?k_peekDigit ?l_skip ?c_skip ?k_skip ?l_readWords ?c_readWords ?k_readWords ?l_readBounded ?c_readBounded ?k_readBounded ?l_readWhole ?c_readWhole ?k_readWhole ?l_readDecimal ?c_readDecimal ?k_readDecimal ?l_readUnsigned ?c_readUnsigned ?k_readUnsigned ?l_readTail ?c_readTail ?k_readTail ?l_initAn ?c_initAn ?k_initAn ?l_readNumber ?c_readNumber ?k_readNumber ?l_readAnswers ?c_readAnswers ?k_readAnswers ?l_initPr ?c_initPr ?k_initPr ?l_readKind ?c_readKind ?k_readKind ?l_readRows ?c_readRows ?k_readRows ?l_readOperands ?c_readOperands ?k_readOperands ?l_readProblem ?c_readProblem ?k_readProblem ?l_readSheet ?c_readSheet ?k_readSheet ?l_rightProduct ?c_rightProduct ?k_rightProduct ?l_rightQuotient ?c_rightQuotient ?k_rightQuotient ?l_rightRoot ?c_rightRoot ?k_rightRoot ?l_rightAnswer ?c_rightAnswer ?k_rightAnswer ?l_areRules ?c_areRules ?k_areRules ?l_markOf ?c_markOf ?k_markOf ?l_marksOf ?c_marksOf ?k_marksOf ?l_areAllRight ?c_areAllRight ?k_areAllRight ?l_pointsOfMarks ?c_pointsOfMarks ?k_pointsOfMarks ?l_pointsInTime ?c_pointsInTime ?k_pointsInTime ?l_checkLength ?c_checkLength ?k_checkLength ?l_mark ?c_mark ?k_mark ?v_MINUS ?v_POINT ?v_NOUGHT ?v_NINE ?v_MOST_WHOLE ?v_MOST_SCALE ?v_ANSWERS_RULE ?v_LINE_FEED ?v_MOST_SECONDS ?v_MOST_ANSWER ?v_SHEET_RULE ?v_FEWEST_ROWS ?v_MOST_ROWS ?v_LEFT_OUT ?v_RIGHT ?v_WRONG ?v_MOST_LIMIT ?v_MOST_MINUS ?v_MOST_BONUS ?v_MINUTE ?v_MOST_BYTES ?v_KIND_BY_BYTE ?o_KIND_BY_BYTE ?y_KIND_BY_BYTE ?b_range ?b_abs ?b_len ?b_ord ?b_sum ?b_zip ?b_max
      (case aCDec => k_is)
      (case aCTL => k_is)
      (case aCFa => k_is)
      (case aCRd => k_is)
      (case aCAn => k_is)
      (case aCPr => k_is)
      (case a_initDec => k_is)
      (case i_initDec => k_is)
      (case a_negated => k_is)
      (case i_negated => k_is)
      (case a_tenTo => k_is)
      (case a_nearest => k_is)
      (case a_wholeRoot => k_is)
      (case a_nearestRoot => k_is)
      (case a_reaches => k_is)
      (case a_initRd => k_is)
      (case i_initRd => k_is)
      (case a_isDone => k_is)
      (case i_isDone => k_is)
      (case a_peek => k_is)
      (case i_peek => k_is)
      (case a_peekDigit => k_is)
      (case i_peekDigit => k_is)
      (case a_skip => k_is)
      (case i_skip => k_is)
      (case a_readWords => k_is)
      (case i_readWords => k_is)
      (case a_readBounded => k_is)
      (case i_readBounded => k_is)
      (case a_readWhole => k_is)
      (case i_readWhole => k_is)
      (case a_readDecimal => k_is)
      (case i_readDecimal => k_is)
      (case a_readUnsigned => k_is)
      (case i_readUnsigned => k_is)
      (case a_readTail => k_is)
      (case i_readTail => k_is)
      (case a_initAn => k_is)
      (case i_initAn => k_is)
      (case a_readNumber => k_is)
      (case a_readAnswers => k_is)
      (case a_initPr => k_is)
      (case i_initPr => k_is)
      (case a_readKind => k_is)
      (case a_readRows => k_is)
      (case a_readOperands => k_is)
      (case a_readProblem => k_is)
      (case a_readSheet => k_is)
      (case a_rightProduct => k_is)
      (case a_rightQuotient => k_is)
      (case a_rightRoot => k_is)
      (case a_rightAnswer => k_is)
      (case a_areRules => k_is)
      (case a_markOf => k_is)
      (case a_marksOf => k_is)
      (case a_areAllRight => k_is)
      (case a_pointsOfMarks => k_is)
      (case a_pointsInTime => k_is)
      (case a_checkLength => k_is)
      (case a_mark => k_is)
      (case pgDec => k_is)
      (case hdDec => k_is)
      (case poDec => k_is)
      (case saDec => k_is)
      (case mkDec => k_is)
      (case kcDec => k_is)
      (case noDec_units => k_is)
      (case noDec_scale => k_is)
      (case lTL => k_is)
      (case lNTL => k_is)
      (case n0TL => rfl)
      (case n1TL => k_is)
      (case n2TL => k_is)
      (case n3TL => k_is)
      (case n4TL => k_is)
      (case n5TL => k_is)
      (case kpTL => k_is)
      (case lFa => k_is)
      (case lNFa => k_is)
      (case n0Fa => rfl)
      (case n1Fa => k_is)
      (case n2Fa => k_is)
      (case n3Fa => k_is)
      (case n4Fa => k_is)
      (case n5Fa => k_is)
      (case kpFa => k_is)
      (case pgRd => k_is)
      (case hdRd => k_is)
      (case poRd => k_is)
      (case saRd => k_is)
      (case mkRd => k_is)
      (case kcRd => k_is)
      (case noRd_text => k_is)
      (case noRd_rule => k_is)
      (case noRd_at => k_is)
      (case pgAn => k_is)
      (case hdAn => k_is)
      (case poAn => k_is)
      (case saAn => k_is)
      (case mkAn => k_is)
      (case kcAn => k_is)
      (case noAn_seconds => k_is)
      (case noAn_numbers => k_is)
      (case pgPr => k_is)
      (case hdPr => k_is)
      (case poPr => k_is)
      (case saPr => k_is)
      (case mkPr => k_is)
      (case kcPr => k_is)
      (case noPr_points => k_is)
      (case noPr_kind => k_is)
      (case noPr_numbers => k_is)
      (case noPr_places => k_is)
      (case l_initDec => k_is)
      (case c_initDec => k_is)
      (case k_initDec => k_is)
      (case l_negated => k_is)
      (case c_negated => k_is)
      (case k_negated => k_is)
      (case l_tenTo => k_is)
      (case c_tenTo => k_is)
      (case k_tenTo => k_is)
      (case l_nearest => k_is)
      (case c_nearest => k_is)
      (case k_nearest => k_is)
      (case l_wholeRoot => k_is)
      (case c_wholeRoot => k_is)
      (case k_wholeRoot => k_is)
      (case l_nearestRoot => k_is)
      (case c_nearestRoot => k_is)
      (case k_nearestRoot => k_is)
      (case l_initTL => k_is)
      (case c_initTL => k_is)
      (case k_initTL => k_is)
      (case l_initFa => k_is)
      (case c_initFa => k_is)
      (case k_initFa => k_is)
      (case l_reaches => k_is)
      (case c_reaches => k_is)
      (case k_reaches => k_is)
      (case l_initRd => k_is)
      (case c_initRd => k_is)
      (case k_initRd => k_is)
      (case l_isDone => k_is)
      (case c_isDone => k_is)
      (case k_isDone => k_is)
      (case l_peek => k_is)
      (case c_peek => k_is)
      (case k_peek => k_is)
      (case l_peekDigit => k_is)
      (case c_peekDigit => k_is)
      (case k_peekDigit => k_is)
      (case l_skip => k_is)
      (case c_skip => k_is)
      (case k_skip => k_is)
      (case l_readWords => k_is)
      (case c_readWords => k_is)
      (case k_readWords => k_is)
      (case l_readBounded => k_is)
      (case c_readBounded => k_is)
      (case k_readBounded => k_is)
      (case l_readWhole => k_is)
      (case c_readWhole => k_is)
      (case k_readWhole => k_is)
      (case l_readDecimal => k_is)
      (case c_readDecimal => k_is)
      (case k_readDecimal => k_is)
      (case l_readUnsigned => k_is)
      (case c_readUnsigned => k_is)
      (case k_readUnsigned => k_is)
      (case l_readTail => k_is)
      (case c_readTail => k_is)
      (case k_readTail => k_is)
      (case l_initAn => k_is)
      (case c_initAn => k_is)
      (case k_initAn => k_is)
      (case l_readNumber => k_is)
      (case c_readNumber => k_is)
      (case k_readNumber => k_is)
      (case l_readAnswers => k_is)
      (case c_readAnswers => k_is)
      (case k_readAnswers => k_is)
      (case l_initPr => k_is)
      (case c_initPr => k_is)
      (case k_initPr => k_is)
      (case l_readKind => k_is)
      (case c_readKind => k_is)
      (case k_readKind => k_is)
      (case l_readRows => k_is)
      (case c_readRows => k_is)
      (case k_readRows => k_is)
      (case l_readOperands => k_is)
      (case c_readOperands => k_is)
      (case k_readOperands => k_is)
      (case l_readProblem => k_is)
      (case c_readProblem => k_is)
      (case k_readProblem => k_is)
      (case l_readSheet => k_is)
      (case c_readSheet => k_is)
      (case k_readSheet => k_is)
      (case l_rightProduct => k_is)
      (case c_rightProduct => k_is)
      (case k_rightProduct => k_is)
      (case l_rightQuotient => k_is)
      (case c_rightQuotient => k_is)
      (case k_rightQuotient => k_is)
      (case l_rightRoot => k_is)
      (case c_rightRoot => k_is)
      (case k_rightRoot => k_is)
      (case l_rightAnswer => k_is)
      (case c_rightAnswer => k_is)
      (case k_rightAnswer => k_is)
      (case l_areRules => k_is)
      (case c_areRules => k_is)
      (case k_areRules => k_is)
      (case l_markOf => k_is)
      (case c_markOf => k_is)
      (case k_markOf => k_is)
      (case l_marksOf => k_is)
      (case c_marksOf => k_is)
      (case k_marksOf => k_is)
      (case l_areAllRight => k_is)
      (case c_areAllRight => k_is)
      (case k_areAllRight => k_is)
      (case l_pointsOfMarks => k_is)
      (case c_pointsOfMarks => k_is)
      (case k_pointsOfMarks => k_is)
      (case l_pointsInTime => k_is)
      (case c_pointsInTime => k_is)
      (case k_pointsInTime => k_is)
      (case l_checkLength => k_is)
      (case c_checkLength => k_is)
      (case k_checkLength => k_is)
      (case l_mark => k_is)
      (case c_mark => k_is)
      (case k_mark => k_is)
      (case v_MINUS => k_is)
      (case v_POINT => k_is)
      (case v_NOUGHT => k_is)
      (case v_NINE => k_is)
      (case v_MOST_WHOLE => k_is)
      (case v_MOST_SCALE => k_is)
      (case v_ANSWERS_RULE => k_is)
      (case v_LINE_FEED => k_is)
      (case v_MOST_SECONDS => k_is)
      (case v_MOST_ANSWER => k_is)
      (case v_SHEET_RULE => k_is)
      (case v_FEWEST_ROWS => k_is)
      (case v_MOST_ROWS => k_is)
      (case v_LEFT_OUT => k_is)
      (case v_RIGHT => k_is)
      (case v_WRONG => k_is)
      (case v_MOST_LIMIT => k_is)
      (case v_MOST_MINUS => k_is)
      (case v_MOST_BONUS => k_is)
      (case v_MINUTE => k_is)
      (case v_MOST_BYTES => k_is)
      (case v_KIND_BY_BYTE => k_is)
      (case o_KIND_BY_BYTE => k_is)
      (case y_KIND_BY_BYTE => rfl)
      (case b_range => k_is)
      (case b_abs => k_is)
      (case b_len => k_is)
      (case b_ord => k_is)
      (case b_sum => k_is)
      (case b_zip => k_is)
      (case b_max => k_is)
    obtain ⟨a, T⟩ := T
    have e0 := hmg.symm.trans T.g_mark
    cases e0
    obtain ⟨fd, hb, hF⟩ := Ab.ok_mark (mg := mg) (a := a) T
    exact ⟨fd, hb, fun base _ _ => hF _ _ base⟩
  case S =>
    intro K H xs a hO hwi hask hx
    cases hx with
    | cons h1 h2 =>
      cases h1
      cases h2 with
      | cons h1 h2 =>
        cases h1
        cases h2 with
        | cons h1 h2 =>
          cases h1
          cases h2 with
          | cons h1 h2 =>
            cases h2 with
            | cons h3 h4 =>
              cases h4
              cases h1 with
              | lst hs ha =>
                cases h3 with
                | lst hs2 ha2 =>
                  have e := L2.ints_dw a.2.2.2.1 _ ha
                  subst e
                  have e2 := L2.ints_dw a.2.2.2.2.1 _ ha2
                  subst e2
                  have q : (Codec.inInt (Int.ofNat 0) (Int.ofNat 9223372036854775807) a.1 && (Codec.inInt (Int.ofNat 0) (Int.ofNat 9223372036854775807) a.2.1 && (Codec.inInt (Int.ofNat 0) (Int.ofNat 9223372036854775807) a.2.2.1 && ((Codec.inLen 0 16500 a.2.2.2.1 && a.2.2.2.1.all (Codec.inInt 0 255)) && ((Codec.inLen 0 16500 a.2.2.2.2.1 && a.2.2.2.2.1.all (Codec.inInt 0 255)) && true))))) = true := hwi
                  rw [Bool.and_eq_true, Bool.and_eq_true, Bool.and_eq_true, Bool.and_eq_true, Bool.and_eq_true, Bool.and_eq_true, Bool.and_eq_true] at q
                  obtain ⟨q1, q2, q3, ⟨q4, q5⟩, ⟨q6, q7⟩, _⟩ := q
                  exact ⟨a.1, a.2.1, a.2.2.1, _, _, a.2.2.2.1, a.2.2.2.2.1, rfl, (Codec.inInt_iff.mp q1).1, (Codec.inInt_iff.mp q2).1, (Codec.inInt_iff.mp q3).1, hs, hs2, (Codec.inNat_iff.mp q4).2, (Codec.inNat_iff.mp q6).2,
                    fun n hn => Codec.inInt_iff.mp (List.all_eq_true.mp q5 n hn), fun n hn => Codec.inInt_iff.mp (List.all_eq_true.mp q7 n hn), fun H' p hp => .lst (L2.SqL.of hp) (L2.dw_ints _)⟩
#print axioms PySem.Challenge.cw_abacusmark_s03_mark_holds
