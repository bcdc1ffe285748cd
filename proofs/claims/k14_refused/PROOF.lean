import PyProof.Rows.All
import Wide.All
import OpenK.AllK
import Wide.FinOn
import Lean
import PyProof.EqAt
import PyProof.EqKinds
import PyProof.TupleCall
import PySem.Challenge.RW_primecloth_k14_refused
set_option Elab.async false
set_option linter.all false
set_option maxRecDepth 100000
set_option maxHeartbeats 4000000
namespace L2
open PySem PySem.Spec PyProof.Rows
abbrev Key := Sum Int Str
def keyIs : Key → Value → Bool
  | .inl k, v => Value.isInt k v
  | .inr x, v => Value.isStrOf x v
def keyH (w : World) : Key → Int
  | .inl k => hashInt k
  | .inr x => hashStr w x
theorem keyIs_shape : ∀ {k : Key} {v : Value}, keyIs k v = true → (∃ i t, k = Sum.inl i ∧ v = Value.int i t) ∨ (∃ x t, k = Sum.inr x ∧ v = Value.str x t)
  | .inl i, v, h => by
    obtain ⟨t, e⟩ := Value.isInt_shape (k := i) (v := v) h
    exact .inl ⟨i, t, rfl, e⟩
  | .inr x, v, h => by
    obtain ⟨t, e⟩ := Value.isStrOf_shape (x := x) (v := v) h
    exact .inr ⟨x, t, rfl, e⟩
theorem key_ll (a b : Int) : decide ((Sum.inl a : Key) = Sum.inl b) = (a == b) := by
  by_cases e : a = b
  · subst e; simp
  · have h : ¬ (Sum.inl a : Key) = Sum.inl b := fun q => e (Sum.inl.inj q)
    rw [decide_eq_false h]
    exact (beq_eq_false_iff_ne.mpr e).symm
theorem key_rr (a b : Str) : decide ((Sum.inr a : Key) = Sum.inr b) = decide (a = b) := by
  by_cases e : a = b
  · subst e; simp
  · have h : ¬ (Sum.inr a : Key) = Sum.inr b := fun q => e (Sum.inr.inj q)
    rw [decide_eq_false h, decide_eq_false e]
theorem key_lr (a : Int) (b : Str) : decide ((Sum.inl a : Key) = Sum.inr b) = false := decide_eq_false (fun q => nomatch q)
theorem key_rl (a : Str) (b : Int) : decide ((Sum.inr a : Key) = Sum.inl b) = false := decide_eq_false (fun q => nomatch q)
def mixKind (prog : Program) (w : World) : PySem.KeyKind prog w Key where
  is := keyIs
  hash := keyH w
  inj := fun v a b ha hb => by
    rcases keyIs_shape ha with ⟨i, t, rfl, rfl⟩ | ⟨x, t, rfl, rfl⟩
    · rcases keyIs_shape hb with ⟨j, u, rfl, e⟩ | ⟨y, u, rfl, e⟩
      · injection e with e1 _; rw [e1]
      · exact nomatch e
    · rcases keyIs_shape hb with ⟨j, u, rfl, e⟩ | ⟨y, u, rfl, e⟩
      · exact nomatch e
      · injection e with e1 _; rw [e1]
  byValue := fun k v h => by
    rcases keyIs_shape h with ⟨i, t, rfl, rfl⟩ | ⟨x, t, rfl, rfl⟩ <;> rfl
  pyHash := fun hv h => by
    rcases keyIs_shape hv with ⟨i, t, rfl, rfl⟩ | ⟨x, t, rfl, rfl⟩
    · exact wpAny_pyHash_int h
    · exact wpAny_pyHash_str h
  eqBool := fun hu hv h => by
    rcases keyIs_shape hu with ⟨i, t, rfl, rfl⟩ | ⟨x, t, rfl, rfl⟩
    · rcases keyIs_shape hv with ⟨j, u, rfl, rfl⟩ | ⟨y, u, rfl, rfl⟩
      · rw [key_ll] at h; exact wpAny_eqBool_int h
      · rw [key_lr] at h; exact SeqAt.EqAt.int_str i t y u _ _ _ _ h
    · rcases keyIs_shape hv with ⟨j, u, rfl, rfl⟩ | ⟨y, u, rfl, rfl⟩
      · rw [key_rl] at h; exact SeqAt.EqAt.str_int x t j u _ _ _ _ h
      · rw [key_rr] at h; exact wpAny_eqBool_str h
  «strs» := fun k x t v h => by
    rcases keyIs_shape h with ⟨i, u, rfl, e⟩ | ⟨y, u, rfl, e⟩
    · exact nomatch e
    · injection e with e1 _
      subst e1
      cases v <;> rfl
end L2
namespace L2
open PySem PySem.Spec PyProof.Rows
inductive V where
  | non | bl (b : Bool) | int (i : Int) | str (x : Str) | byt (b : Array UInt8) | flt (b : UInt64) | ref (a : Addr) | ty (n : String)
  deriving DecidableEq
def RelV : V → Value → Prop
  | .non, u => u = Value.none
  | .bl b, u => u = Value.bool b
  | .int i, u => ∃ t, u = Value.int i t
  | .str x, u => ∃ t, u = Value.str x t
  | .byt b, u => ∃ t, u = Value.bytes b t
  | .flt b, u => ∃ t, u = Value.float b t
  | .ref a, u => u = Value.ref a
  | .ty n, u => u = Value.type n
abbrev Vals : List V → List Value → Prop := Paired RelV
theorem Vals.length {xs : List V} {us : List Value} (r : Vals xs us) : xs.length = us.length := Paired.length r
theorem Vals.get : ∀ {xs : List V} {us : List Value} {i : Nat} {x : V}, Vals xs us → xs[i]? = some x → ∃ u, us[i]? = some u ∧ RelV x u
  | _, _, _, _, .nil, e => by simp at e
  | _, _, 0, _, .cons r _, e => by simp at e; subst e; exact ⟨_, rfl, r⟩
  | _, _, i + 1, x, .cons _ t, e => by
    obtain ⟨u, h1, h2⟩ := Vals.get (i := i) (x := x) t (by simpa using e)
    exact ⟨u, by simpa using h1, h2⟩
theorem Vals.set {x : V} {u : Value} (r : RelV x u) : ∀ {xs : List V} {us : List Value} (i : Nat), Vals xs us → Vals (xs.set i x) (us.set i u)
  | _, _, _, .nil => .nil
  | _, _, 0, .cons _ t => .cons r t
  | _, _, i + 1, .cons q t => .cons q (Vals.set r i t)
theorem Vals.append : ∀ {xs ys : List V} {us ws : List Value}, Vals xs us → Vals ys ws → Vals (xs ++ ys) (us ++ ws)
  | _, _, _, _, .nil, s => s
  | _, _, _, _, .cons r t, s => .cons r (Vals.append t s)
theorem Vals.take : ∀ {xs : List V} {us : List Value} (n : Nat), Vals xs us → Vals (xs.take n) (us.take n)
  | _, _, 0, _ => .nil
  | _, _, _ + 1, .nil => .nil
  | _, _, n + 1, .cons r t => .cons r (Vals.take n t)
theorem Vals.drop : ∀ {xs : List V} {us : List Value} (n : Nat), Vals xs us → Vals (xs.drop n) (us.drop n)
  | _, _, 0, r => r
  | _, _, _ + 1, .nil => .nil
  | _, _, n + 1, .cons _ t => Vals.drop n t
def RelO : Option V → Option Value → Prop
  | some v, some u => RelV v u
  | none, none => True
  | _, _ => False
def KV {κ : Type} : List (κ × V) → List (κ × Value) → Prop := Paired fun (p : κ × V) (q : κ × Value) => p.1 = q.1 ∧ RelV p.2 q.2
def kV : Key → V
  | .inl i => .int i
  | .inr x => .str x
inductive HO where
  | lst (xs : List V)
  | tup (xs : List V)
  | dK (kvs : List (Key × V)) | dT (kvs : List (List Key × V))
  | set (S : Int → Bool) (n : Nat)
  | ins (C dx : Addr) (fs : List (Str × V))
  | own (x : Addr)
  | xd (fs : List (Str × V))
  | met (f x : Addr)
  | rng (lo hi : Int)
  | frz (o : Obj) (u : HO)
  | tbl (ps : Array Value)
  | ext (φ : Heap → Prop)
abbrev Hp := Addr → Option HO
def upd (H : Hp) (a : Addr) (o : HO) : Hp := fun b => if b = a then some o else H b
theorem upd_same {H : Hp} {a : Addr} {o : HO} : upd H a o a = some o := by unfold upd; rw [if_pos rfl]
theorem upd_ne {H : Hp} {a b : Addr} {o : HO} (h : b ≠ a) : upd H a o b = H b := by unfold upd; rw [if_neg h]
theorem ne_of_none {H : Hp} {a b : Addr} {o : HO} (h : H a = some o) (h' : H b = none) : a ≠ b := by
  intro e; subst e; rw [h] at h'; cases h'
section
variable (P : Program) (w : World)
def ObjOk (H : Hp) (h : Heap) (a : Addr) : HO → Prop
  | .lst xs => xs.length ≤ sizeLine ∧ ∃ (its : List Value) (n : Nat), Vals xs its ∧ h.get? a = some { cls := .type "list", data := .seq its.toArray n }
  | .tup xs => xs.length ≤ sizeLine ∧ ∃ its : List Value, Vals xs its ∧ IsTup h a its.toArray
  | .dK kvs => kvs.length ≤ sizeLine ∧ (a == sysModules) = false ∧ ∃ vs, KV kvs vs ∧ h.DictOf (mixKind P w) a vs
  | .dT kvs => kvs.length ≤ sizeLine ∧ (a == sysModules) = false ∧ ∃ xs : List (List Key × Addr × Value),
      Paired (fun (p : List Key × V) (q : List Key × Addr × Value) => p.1 = q.1 ∧ H q.2.1 = some (.tup (p.1.map kV)) ∧ RelV p.2 q.2.2) kvs xs ∧
      ∃ o es ep, h.get? a = some o ∧ o.ExactDict ∧ o.data = .dict es ep ∧ es.toList = xs.map (entryOfKey (tupleKind (mixKind P w))) ∧ (xs.map (·.1)).Nodup
  | .set S n => h.SetOf (intKind P w) a S n
  | .ins C dx fs => H dx = some (.own a) ∧ fs.length ≤ 1000 ∧ dx ≠ a ∧ h.get? a = some (PySem.W.instObj C dx) ∧
      ∃ mA, h.Ns1 dx mA ∧ (∀ f, RelO (fs.lookup f) (mA f)) ∧ PySem.Within mA (fs.map (·.1))
  | .own _ => ∃ o, h.get? a = some o
  | .xd fs => ∃ mA, h.Ns1 a mA ∧ ∀ f, RelO (fs.lookup f) (mA f)
  | .rng lo hi => ∃ t u v, h.get? a = some { cls := .type "range", data := .fields #[.int lo t, .int hi u, .int 1 v] }
  | .frz o u => h.get? a = some o ∧ ObjOk H h a u
  | .tbl ps => h.get? a = some { cls := .none, data := .fields ps }
  | .met f x => h.get? a = some (PySem.W.methodObj (.ref f) (.ref x))
  | .ext φ => φ h ∧ (∃ o, h.get? a = some o) ∧ ∀ h1 h2 : Heap, φ h1 → (∀ o, h1.get? a = some o → h2.get? a = some o) → φ h2
def HOk (H : Hp) (h : Heap) : Prop := ∀ a o, H a = some o → ObjOk P w H h a o
end
section
variable {P : Program} {w : World} {H H' : Hp} {h h' : Heap} {a : Addr} {o : HO}
theorem ObjOk.lt (x : ObjOk P w H h a o) : a < h.objs.size := by
  cases o with
  | lst xs => obtain ⟨_, _, _, _, e⟩ := x; exact Heap.lt_size e
  | tup xs => obtain ⟨_, _, _, p⟩ := x; exact p.lt
  | dK kvs => obtain ⟨_, _, _, _, o, _, _, e, _⟩ := x; exact Heap.lt_size e
  | dT kvs => obtain ⟨_, _, _, _, o, _, _, e, _⟩ := x; exact Heap.lt_size e
  | set S n => obtain ⟨o, _, _, _, e, _⟩ := x; exact Heap.lt_size e
  | ins C dx fs => obtain ⟨_, _, _, e, _⟩ := x; exact Heap.lt_size e
  | own y => obtain ⟨_, e⟩ := x; exact Heap.lt_size e
  | xd fs => obtain ⟨_, ⟨_, _, _, e, _⟩, _⟩ := x; exact Heap.lt_size e
  | rng lo hi => obtain ⟨_, _, _, e⟩ := x; exact Heap.lt_size e
  | frz ob u => obtain ⟨e, _⟩ := x; exact Heap.lt_size e
  | tbl ps => exact Heap.lt_size (show h.get? a = some _ from x)
  | met f y => exact Heap.lt_size (show h.get? a = some _ from x)
  | ext φ => obtain ⟨_, ⟨_, e⟩, _⟩ := x; exact Heap.lt_size e
theorem Paired.mapP {α β : Type} {F G : α → β → Prop} : ∀ {l₁ : List α} {l₂ : List β}, Paired F l₁ l₂ → (∀ a b, F a b → G a b) → Paired G l₁ l₂
  | _, _, .nil, _ => .nil
  | _, _, .cons r t, f => .cons (f _ _ r) (Paired.mapP t f)
theorem ObjOk.stay (x : ObjOk P w H h a o) (k : ∀ b u, (b = a ∨ H b = some (.own a)) → h.get? b = some u → h'.get? b = some u)
    (ho : ∀ b, H b = some (.own a) → H' b = some (.own a)) (ht : ∀ b xs, H b = some (.tup xs) → H' b = some (.tup xs)) : ObjOk P w H' h' a o := by
  induction o with
  | lst xs => obtain ⟨z, its, n, r, e⟩ := x; exact ⟨z, its, n, r, k _ _ (.inl rfl) e⟩
  | tup xs => obtain ⟨z, its, r, ob, e, c⟩ := x; exact ⟨z, its, r, ob, k _ _ (.inl rfl) e, c⟩
  | dK kvs => obtain ⟨z, y, vs, r, ob, es, ep, e, c⟩ := x; exact ⟨z, y, vs, r, ob, es, ep, k _ _ (.inl rfl) e, c⟩
  | dT kvs =>
    obtain ⟨z, y, xs, r, ob, es, ep, e, c⟩ := x
    exact ⟨z, y, xs, Paired.mapP r fun p q z => ⟨z.1, ht _ _ z.2.1, z.2.2⟩, ob, es, ep, k _ _ (.inl rfl) e, c⟩
  | set S n => obtain ⟨ob, es, ep, t, e, c⟩ := x; exact ⟨ob, es, ep, t, k _ _ (.inl rfl) e, c⟩
  | ins C dx fs =>
    obtain ⟨d, z, ne, e, mA, ⟨od, es, ep, e2, c⟩, r⟩ := x
    exact ⟨ho _ d, z, ne, k _ _ (.inl rfl) e, mA, ⟨od, es, ep, k _ _ (.inr d) e2, c⟩, r⟩
  | own y => obtain ⟨ob, e⟩ := x; exact ⟨ob, k _ _ (.inl rfl) e⟩
  | xd fs => obtain ⟨mA, ⟨od, es, ep, e, c⟩, r⟩ := x; exact ⟨mA, ⟨od, es, ep, k _ _ (.inl rfl) e, c⟩, r⟩
  | rng lo hi => obtain ⟨t, u, v, e⟩ := x; exact ⟨t, u, v, k _ _ (.inl rfl) e⟩
  | frz ob u ih => obtain ⟨e, q⟩ := x; exact ⟨k _ _ (.inl rfl) e, ih q⟩
  | tbl ps =>
    have e : h.get? a = some { cls := .none, data := .fields ps } := x
    show h'.get? a = some { cls := .none, data := .fields ps }
    exact k a _ (.inl rfl) e
  | met f y =>
    have e : h.get? a = some (PySem.W.methodObj (.ref f) (.ref y)) := x
    show h'.get? a = some (PySem.W.methodObj (.ref f) (.ref y))
    exact k a _ (.inl rfl) e
  | ext φ => obtain ⟨p, ⟨o, e⟩, st⟩ := x; exact ⟨st _ _ p fun o q => k _ _ (.inl rfl) q, ⟨o, k _ _ (.inl rfl) e⟩, st⟩
theorem HOk.lt (x : HOk P w H h) (e : H a = some o) : a < h.objs.size := (x a o e).lt
theorem HOk.fresh (x : HOk P w H h) (e : h.objs.size ≤ a) : H a = none := by
  cases q : H a with
  | none => rfl
  | some u => exact absurd (Nat.lt_of_lt_of_le (x.lt q) e) (Nat.lt_irrefl _)
theorem HOk.kept (x : HOk P w H h) (k : ∀ b u, h.get? b = some u → h'.get? b = some u) : HOk P w H h' := fun a o e =>
  (x a o e).stay (fun b u _ q => k b u q) (fun _ q => q) fun _ _ q => q
theorem HOk.laid (x : HOk P w H h) (k : ∀ b u, h.get? b = some u → h'.get? b = some u) (hp : h.objs.size ≤ a) (new : ObjOk P w (upd H a o) h' a o) : HOk P w (upd H a o) h' := fun b u e => by
  have hn := x.fresh hp
  by_cases hb : b = a
  · subst hb; rw [upd_same] at e; cases e; exact new
  · rw [upd_ne hb] at e
    exact (x b u e).stay (fun c v _ q => k c v q) (fun c q => by rw [upd_ne (ne_of_none q hn)]; exact q) fun c xs q => by rw [upd_ne (ne_of_none q hn)]; exact q
end
def Rd (H : Hp) (a : Addr) (u : HO) : Prop := H a = some u ∨ ∃ o, H a = some (.frz o u)
theorem Rd.of {H : Hp} {a : Addr} {u : HO} (h : H a = some u) : Rd H a u := .inl h
theorem Rd.ok {P : Program} {w : World} {H : Hp} {h : Heap} {a : Addr} {u : HO} (r : Rd H a u) (x : HOk P w H h) : ObjOk P w H h a u := by
  rcases r with r | ⟨o, r⟩
  · exact x a u r
  · obtain ⟨_, q⟩ := x a _ r
    exact q
def Mut : Option HO → Prop
  | some (.lst _) => True
  | some (.dK _) => True
  | some (.dT _) => True
  | some (.set _ _) => True
  | some (.ins _ _ _) => True
  | some (.ext _) => True
  | _ => False
section
variable {P : Program} {w : World} {H : Hp} {h h' : Heap} {x e : Addr} {o' : HO}
theorem HOk.write (ok : HOk P w H h) (mu : Mut (H x)) (he : e = x ∨ H e = some (.own x)) (k : ∀ b u, b ≠ e → h.get? b = some u → h'.get? b = some u) (heo : ∃ u, h'.get? e = some u)
    (new : ObjOk P w (upd H x o') h' x o') : HOk P w (upd H x o') h' := fun b u q => by
  have nown : ∀ c y, H c = some (.own y) → c ≠ x := fun c y r z => by subst z; rw [r] at mu; exact mu
  have ntup : ∀ c xs, H c = some (.tup xs) → c ≠ x := fun c xs r z => by subst z; rw [r] at mu; exact mu
  by_cases hb : b = x
  · subst hb; rw [upd_same] at q; cases q; exact new
  · rw [upd_ne hb] at q
    by_cases hbe : b = e
    · have q' : H b = some (.own x) := by
        rcases he with z | z
        · exact absurd (hbe.trans z) hb
        · rw [hbe]; exact z
      rw [q] at q'; cases q'
      obtain ⟨v, hv⟩ := heo
      exact ⟨v, by rw [hbe]; exact hv⟩
    · refine (ok b u q).stay (fun c v hc r => k c v ?_ r) (fun c r => by rw [upd_ne (nown c b r)]; exact r) fun c xs r => by rw [upd_ne (ntup c xs r)]; exact r
      rcases hc with rfl | hc
      · exact hbe
      · rintro rfl
        rcases he with z | z
        · exact nown c b hc z
        · rw [hc] at z; cases z; exact hb rfl
end
structure Un (fs ex : List Addr) (H H' : Hp) (h h' : Heap) : Prop where
  keep : ∀ b o, h.get? b = some o → H b = none → b ∉ fs → b ∉ ex → h'.get? b = some o
  slot : ∀ b o, h.get? b = some o → H b = none → b ∈ fs → b ∉ ex → ∃ sl, h'.get? b = some { o with slots := sl }
  free : ∀ b o, h.get? b = some o → H b = none → b ∉ ex → H' b = none
  there : ∀ b o, h.get? b = some o → b ∉ ex → ∃ o', h'.get? b = some o'
  tups : ∀ b xs, H b = some (.tup xs) → H' b = some (.tup xs)
  frzs : ∀ b o u, H b = some (.frz o u) → H' b = some (.frz o u)
  tbls : ∀ b ps, H b = some (.tbl ps) → ∃ more, H' b = some (.tbl (ps ++ more))
section
variable {fs fs' ex ex' : List Addr} {H H1 H2 : Hp} {h h1 h2 h' : Heap} {a x e : Addr} {o : HO}
theorem Un.any (u : Un fs ex H H1 h h1) {b : Addr} {ob : Obj} (q : h.get? b = some ob) (n : H b = none) (hx : b ∉ ex) : ∃ sl, h1.get? b = some { ob with slots := sl } := by
  by_cases hb : b ∈ fs
  · exact u.slot b ob q n hb hx
  · exact ⟨ob.slots, u.keep b ob q n hb hx⟩
theorem Un.trans (a : Un fs ex H H1 h h1) (b : Un fs ex H1 H2 h1 h2) : Un fs ex H H2 h h2 where
  keep := fun c ob q n hc hx => b.keep c ob (a.keep c ob q n hc hx) (a.free c ob q n hx) hc hx
  slot := fun c ob q n hc hx => by
    obtain ⟨sl, e1⟩ := a.slot c ob q n hc hx
    obtain ⟨sl', e2⟩ := b.slot c _ e1 (a.free c ob q n hx) hc hx
    exact ⟨sl', e2⟩
  free := fun c ob q n hx => by
    obtain ⟨o', e1⟩ := a.there c ob q hx
    exact b.free c o' e1 (a.free c ob q n hx) hx
  there := fun c ob q hx => by
    obtain ⟨o', e1⟩ := a.there c ob q hx
    exact b.there c o' e1 hx
  tups := fun c xs q => b.tups c xs (a.tups c xs q)
  frzs := fun c ob xs q => b.frzs c ob xs (a.frzs c ob xs q)
  tbls := fun c ps q => by
    obtain ⟨m1, e1⟩ := a.tbls c ps q
    obtain ⟨m2, e2⟩ := b.tbls c _ e1
    exact ⟨m1 ++ m2, by rw [e2, Array.append_assoc]⟩
theorem Un.kept (k : ∀ b u, h.get? b = some u → h'.get? b = some u) : Un fs ex H H h h' :=
  ⟨fun b ob q _ _ _ => k b ob q, fun b ob q _ _ _ => ⟨ob.slots, k b ob q⟩, fun _ _ _ n _ => n, fun b ob q _ => ⟨ob, k b ob q⟩, fun _ _ q => q, fun _ _ _ q => q, fun _ ps q => ⟨#[], by rw [q]; simp⟩⟩
theorem Un.refl : Un fs ex H H h h := Un.kept fun _ _ q => q
theorem Un.laid (k : ∀ b u, h.get? b = some u → h'.get? b = some u) (hp : h.objs.size ≤ a) (hn : H a = none) : Un fs ex H (upd H a o) h h' where
  keep := fun b u q _ _ _ => k b u q
  slot := fun b u q _ _ _ => ⟨u.slots, k b u q⟩
  free := fun b u q n _ => by rw [upd_ne (Nat.ne_of_lt (Nat.lt_of_lt_of_le (Heap.lt_size q) hp))]; exact n
  there := fun b u q _ => ⟨u, k b u q⟩
  tups := fun b xs q => by rw [upd_ne (ne_of_none q hn)]; exact q
  frzs := fun b u xs q => by rw [upd_ne (ne_of_none q hn)]; exact q
  tbls := fun b ps q => ⟨#[], by rw [upd_ne (ne_of_none q hn), q]; simp⟩
theorem Un.write (mu : Mut (H x)) (he : e = x ∨ H e = some (.own x)) (k : ∀ b u, b ≠ e → h.get? b = some u → h'.get? b = some u) (heo : ∃ u, h'.get? e = some u) : Un fs ex H (upd H x o) h h' := by
  have hx : ∀ b, H b = none → b ≠ x := fun b n z => by subst z; rw [n] at mu; exact mu
  have hb : ∀ b, H b = none → b ≠ e := fun b n z => by
    subst z
    rcases he with r | r
    · exact hx b n r
    · rw [n] at r; cases r
  have hm : ∀ b u, H b = some u → ¬ Mut (some u) → b ≠ x := fun b u q nm z => by subst z; rw [q] at mu; exact nm mu
  refine ⟨fun b u q n _ _ => k b u (hb b n) q, fun b u q n _ _ => ⟨u.slots, k b u (hb b n) q⟩, fun b u q n _ => by rw [upd_ne (hx b n)]; exact n, fun b u q _ => ?_,
    fun b xs q => by rw [upd_ne (hm b _ q fun z => z)]; exact q, fun b u xs q => by rw [upd_ne (hm b _ q fun z => z)]; exact q, fun b ps q => ⟨#[], by rw [upd_ne (hm b _ q fun z => z), q]; simp⟩⟩
  by_cases hbe : b = e
  · subst hbe; exact heo
  · exact ⟨u, k b u hbe q⟩
theorem Un.mono (u : Un fs ex H H1 h h1) (hs : ∀ b ∈ fs, b ∈ fs') (hx : ∀ b ∈ ex, b ∈ ex') : Un fs' ex' H H1 h h1 :=
  ⟨fun b ob q n hb he => u.keep b ob q n (fun z => hb (hs b z)) fun z => he (hx b z), fun _ _ q n _ he => u.any q n fun z => he (hx _ z), fun b ob q n he => u.free b ob q n fun z => he (hx b z), fun b ob q he => u.there b ob q fun z => he (hx b z), u.tups, u.frzs, u.tbls⟩
end
def trk (h : Heap) (H : Hp) : List Addr := (List.range h.objs.size).filter fun a => (H a).isSome
def hidT (h : Heap) (H : Hp) : Heap := PySem.W.hideAll h (trk h H)
theorem hidT_size (h : Heap) (H : Hp) : (hidT h H).objs.size = h.objs.size := PySem.W.hideAll_size _ _
theorem hidT_get {h : Heap} {H : Hp} {b : Addr} {o : Obj} (e : h.get? b = some o) (n : H b = none) : (hidT h H).get? b = some o :=
  PySem.W.hideAll_get _ e fun hm => by
    have q : (H b).isSome = true := (List.mem_filter.mp hm).2
    rw [n] at q; simp at q
theorem of_hidT {h : Heap} {H : Hp} {b : Addr} {o : Obj} (e : (hidT h H).get? b = some o) : h.get? b = some o ∧ H b = none := by
  have e' : h.get? b = some o := PySem.W.of_hideAll (trk h H) e
  refine ⟨e', ?_⟩
  cases q : H b with
  | none => rfl
  | some x =>
    have hm : b ∈ trk h H := List.mem_filter.mpr ⟨List.mem_range.mpr (Heap.lt_size e'), by simp [q]⟩
    have z : (hidT h H).get? b = none := PySem.W.hideAll_none (trk h H) hm
    rw [z] at e; cases e
def allNews (g h : Heap) (L : Addr) : List (Addr × Obj) := (List.range h.objs.size).filterMap fun a => if a = L ∨ (g.get? a).isSome = true then none else (h.get? a).map fun o => (a, o)
def rest (g h : Heap) (L d : Addr) : List (Addr × Obj) := (allNews g h L).filter fun p => decide (p.1 ≠ d)
end L2
namespace L2
open PySem PySem.Spec PyProof.Rows
structure Mod (K : PySem.W.Frag) (mg : Str → Option Value) (base : Heap) : Prop where
  kin : K.In base
  glob : base.Ns mainGlobals mg
  blt : ∃ mb, base.Ns builtinsNs mb ∧ ∀ x : Str, x ≠ "__name__" → mb x = bootBuiltins x
  nolimit : base.NoLimit
structure Cx where
  prog : Program
  w : World
  K : PySem.W.Frag
  mg : Str → Option Value
  base : Heap
  A : Around
  N : List Str
  s₀ : Shared
  H₀ : Hp
  env : Env
  outer : List Env
  stack : List Env
  ex : List Addr
  fn : Str → Bool
  calm : Bool
  pn : List (Addr × Obj)
  xe : Value → Shared → Prop
def frs (l : List Env) : List Addr := l.filterMap (·.frame)
abbrev Cx.fs (X : Cx) : List Addr := frs X.outer
def Vis (sc : Scope) (x : Str) : Prop := sc.names.lookup x = some .local ∨ sc.names.lookup x = some .cell ∨ sc.names.lookup x = some .free
def Loc (sc : Scope) (x : Str) : Prop := sc.names.lookup x = some .local ∨ sc.names.lookup x = some .cell
def Look (env : Env) (h : Heap) (m : Str → Option Value) (x : Str) (u : Value) : Prop :=
  (env.kindOf x = some .local ∧ m x = some u) ∨ ((env.kindOf x = some .cell ∨ env.kindOf x = some .free) ∧ ∃ c, env.cells.lookup x = some c ∧ h.IsCell c (some u))
structure Cx.Ok (X : Cx) : Prop where
  mod : Mod X.K X.mg X.base
  kind : X.env.scope.kind = .function
  glob : X.env.globals = mainGlobals
  blt : X.env.builtins = builtinsNs
  above : X.s₀.heap.objs.size ≤ X.env.locals
  inj : ∀ x y c, X.env.cells.lookup x = some c → X.env.cells.lookup y = some c → x = y
  has : ∀ x, (X.env.kindOf x = some .cell ∨ X.env.kindOf x = some .free) → ∃ c, X.env.cells.lookup x = some c
  cab : ∀ x c, X.fn x = true → X.env.cells.lookup x = some c → X.s₀.heap.objs.size ≤ c
  hd : X.calm = true → X.A.handled = none
  frames : X.A.frames = some X.stack
  stk : X.stack = X.outer ∨ (X.stack = X.env :: X.outer ∧ X.env.frame = some X.env.locals)
  exf : ∀ b ∈ X.ex, b ≠ X.env.locals ∧ ∀ x c, X.env.cells.lookup x = some c → c ≠ b
  bs : ∀ b o, X.base.get? b = some o → X.s₀.heap.get? b = some o ∧ X.H₀ b = none
  bsz : X.base.objs.size ≤ X.s₀.heap.objs.size
  noex : ∀ b o, X.base.get? b = some o → b ∉ X.ex
  exfs : ∀ b ∈ X.ex, b ∉ X.fs
  funs : X.s₀.heap.FunFrames X.base X.outer
  frf : ∀ b ∈ X.fs, X.H₀ b = none
structure Inv (X : Cx) (pins : List (Addr × Obj)) (σ : List (Option V)) (H : Hp) (s : Shared) : Prop where
  ok : X.Ok
  os : s.os = X.s₀.os
  bare : AllBare s.gens
  base : Un X.fs X.ex X.H₀ H X.s₀.heap s.heap
  loc : ∃ m, s.heap.Ns X.env.locals m ∧ ∀ (i : Nat) (x : Str) (v : V), X.N[i]? = some x → σ[i]? = some (some v) → Vis X.env.scope x → ∃ u, RelV v u ∧ Look X.env s.heap m x u
  cell : ∀ x c, X.env.cells.lookup x = some c → ∃ v, s.heap.IsCell c v
  free : H X.env.locals = none
  freeC : ∀ x c, X.env.cells.lookup x = some c → H c = none
  pin : ∀ p ∈ X.pn ++ pins, s.heap.get? p.1 = some p.2 ∧ H p.1 = none ∧ p.1 ≠ X.env.locals ∧ p.1 ∉ X.fs ∧ ∀ v, p.2.data ≠ .cell v
  hok : HOk X.prog X.w H s.heap
  len : σ.length = X.N.length
section
variable {X : Cx} {pins : List (Addr × Obj)} {σ : List (Option V)} {H H' : Hp} {s : Shared} {h' : Heap}
theorem Cx.Ok.nofr (ok : X.Ok) {b : Addr} {o : Obj} (e : X.base.get? b = some o) : b ∉ X.fs := fun hb => by
  have := (ok.funs.mem hb).1
  rw [e] at this; cases this
theorem Inv.bs (I : Inv X pins σ H s) : ∀ b o, X.base.get? b = some o → s.heap.get? b = some o ∧ H b = none := fun b o e =>
  ⟨I.base.keep b o (I.ok.bs b o e).1 (I.ok.bs b o e).2 (I.ok.nofr e) (I.ok.noex b o e), I.base.free b o (I.ok.bs b o e).1 (I.ok.bs b o e).2 (I.ok.noex b o e)⟩
theorem Inv.bk (I : Inv X pins σ H s) : ∀ b o, X.base.get? b = some o → s.heap.get? b = some o := fun b o e => (I.bs b o e).1
theorem Inv.mod (I : Inv X pins σ H s) : Mod X.K X.mg X.base := I.ok.mod
theorem Inv.kIn (I : Inv X pins σ H s) : X.K.In s.heap := I.ok.mod.kin.keeps I.bk
theorem Inv.nolimit (I : Inv X pins σ H s) : s.heap.NoLimit := I.ok.mod.nolimit.keeps I.bk
theorem Inv.fr (I : Inv X pins σ H s) : ∃ m, Fr X.base X.env.locals s.heap m :=
  let ⟨m, hn, _⟩ := I.loc
  ⟨m, hn, I.bk, Nat.le_trans I.ok.bsz I.ok.above⟩
theorem Inv.lt (I : Inv X pins σ H s) : X.env.locals < s.heap.objs.size := let ⟨_, hn, _⟩ := I.loc; hn.lt
theorem Inv.sz (I : Inv X pins σ H s) : X.s₀.heap.objs.size ≤ s.heap.objs.size := Nat.le_trans I.ok.above (Nat.le_of_lt I.lt)
theorem Inv.nofs (I : Inv X pins σ H s) {a : Addr} (h : s.heap.objs.size ≤ a) : a ∉ X.fs := fun hb => by
  obtain ⟨_, o, ho, _⟩ := I.ok.funs.mem hb
  exact absurd (Nat.lt_of_lt_of_le (Heap.lt_size ho) (Nat.le_trans I.sz h)) (Nat.lt_irrefl _)
theorem Inv.cne (I : Inv X pins σ H s) : ∀ x c, X.env.cells.lookup x = some c → c ≠ X.env.locals := fun x c e z => by
  obtain ⟨v, o, ho, hd⟩ := I.cell x c e
  obtain ⟨m, ⟨o', es, ep, ho', hd', _⟩, _⟩ := I.loc
  rw [z, ho'] at ho; cases ho; rw [hd'] at hd; cases hd
theorem Inv.funs (I : Inv X pins σ H s) : s.heap.FunFrames X.base X.outer := by
  have all : ∀ (l : List Env), (∀ b ∈ frs l, b ∈ X.fs) → X.s₀.heap.FunFrames X.base l → s.heap.FunFrames X.base l := by
    intro l
    induction l with
    | nil => intro _ _; trivial
    | cons env r ih =>
      intro hs hl
      obtain ⟨hk, ⟨L, o, hf, hn, ho, hd⟩, hr⟩ := hl
      have hL : L ∈ X.fs := hs L (by unfold frs; rw [List.filterMap_cons, hf]; exact List.mem_cons_self)
      obtain ⟨sl, e⟩ := I.base.slot L o ho (I.ok.frf L hL) hL fun z => I.ok.exfs L z hL
      exact ⟨hk, ⟨L, _, hf, hn, e, hd⟩, ih (fun b hb => hs b (by unfold frs; rw [List.filterMap_cons, hf]; exact List.mem_cons_of_mem _ hb)) hr⟩
  exact all X.outer (fun _ hb => hb) I.ok.funs
theorem Inv.stack (I : Inv X pins σ H s) : s.heap.FunFrames X.base X.stack := by
  rcases I.ok.stk with e | ⟨e, hf⟩
  · rw [e]; exact I.funs
  · rw [e]
    obtain ⟨m, hn, _⟩ := I.loc
    refine .cons (by rw [I.ok.kind]; decide) hf hn ?_ I.funs
    exact Heap.get?_none_of_le (Nat.le_trans I.ok.bsz I.ok.above)
theorem Inv.stkSub (I : Inv X pins σ H s) : ∀ b ∈ frs X.stack, b ∈ X.env.locals :: X.fs := fun b hb => by
  rcases I.ok.stk with e | ⟨e, hf⟩
  · rw [e] at hb; exact List.mem_cons_of_mem _ hb
  · rw [e] at hb
    unfold frs at hb
    rw [List.filterMap_cons, hf] at hb
    exact hb
theorem Inv.stkFree (I : Inv X pins σ H s) : ∀ b ∈ frs X.stack, H b = none := fun b hb => by
  rcases List.mem_cons.mp (I.stkSub b hb) with e | hb
  · rw [e]; exact I.free
  · obtain ⟨_, o, ho, _⟩ := I.ok.funs.mem hb
    exact I.base.free b o ho (I.ok.frf b hb) fun z => I.ok.exfs b z hb
theorem Inv.step {g' : Array GenState} {t' : Nat} {d' : Drawn} {ch : List Addr} (I : Inv X pins σ H s)
    (hch : ∀ b ∈ ch, (b ∈ X.ex ∨ X.s₀.heap.objs.size ≤ b) ∧ b ≠ X.env.locals ∧ (∀ x c, X.env.cells.lookup x = some c → c ≠ b) ∧ ∀ p ∈ X.pn ++ pins, p.1 ≠ b)
    (keep : ∀ b o, b ≠ X.env.locals → b ∉ X.fs → b ∉ ch → s.heap.get? b = some o → H b = none → h'.get? b = some o)
    (slot : ∀ b o, b ≠ X.env.locals → b ∈ X.fs → b ∉ ch → s.heap.get? b = some o → H b = none → ∃ sl, h'.get? b = some { o with slots := sl }) (free : ∀ b o, b ∉ ch → s.heap.get? b = some o → H b = none → H' b = none)
    (there : ∀ b o, b ∉ ch → s.heap.get? b = some o → ∃ o', h'.get? b = some o')
    (tups : ∀ b xs, H b = some (.tup xs) → H' b = some (.tup xs)) (frzs : ∀ b o u, H b = some (.frz o u) → H' b = some (.frz o u)) (tbls : ∀ b ps, H b = some (.tbl ps) → ∃ more, H' b = some (.tbl (ps ++ more)))
    (ns : ∀ m, s.heap.Ns X.env.locals m → h'.Ns X.env.locals m) (hok : HOk X.prog X.w H' h') (hg : AllBare g') :
    Inv X pins σ H' { s with heap := h', gens := g', drawn := d', toks := t' } := by
  have neL : ∀ b o, X.s₀.heap.get? b = some o → b ≠ X.env.locals := fun b o e => Nat.ne_of_lt (Nat.lt_of_lt_of_le (Heap.lt_size e) I.ok.above)
  have neC : ∀ b o, X.s₀.heap.get? b = some o → b ∉ X.ex → b ∉ ch := fun b o e hx hb => by
    rcases (hch b hb).1 with z | z
    · exact hx z
    · exact absurd (Nat.lt_of_lt_of_le (Heap.lt_size e) z) (Nat.lt_irrefl _)
  have cellK : ∀ x c, X.env.cells.lookup x = some c → ∀ v, s.heap.IsCell c v → h'.IsCell c v := fun x c e v ⟨o, ho, hd⟩ => by
    have nch : c ∉ ch := fun z => (hch c z).2.2.1 x c e rfl
    by_cases hc : c ∈ X.fs
    · obtain ⟨sl, q⟩ := slot c o (I.cne x c e) hc nch ho (I.freeC x c e)
      exact ⟨_, q, hd⟩
    · exact ⟨o, keep c o (I.cne x c e) hc nch ho (I.freeC x c e), hd⟩
  refine ⟨I.ok, I.os, hg, ⟨fun b o e n hb hx => ?_, fun b o e n hb hx => ?_, fun b o e n hx => ?_, fun b o e hx => ?_, fun b xs e => tups b xs (I.base.tups b xs e), fun b o xs e => frzs b o xs (I.base.frzs b o xs e), fun b ps e => ?_⟩, ?_, fun x c e => ?_, ?_, fun x c e => ?_, fun p hp => ?_, hok, I.len⟩
  · exact keep b o (neL b o e) hb (neC b o e hx) (I.base.keep b o e n hb hx) (I.base.free b o e n hx)
  · obtain ⟨sl, e1⟩ := I.base.slot b o e n hb hx
    obtain ⟨sl', e2⟩ := slot b _ (neL b o e) hb (neC b o e hx) e1 (I.base.free b o e n hx)
    exact ⟨sl', e2⟩
  · obtain ⟨o', e1⟩ := I.base.there b o e hx
    exact free b o' (neC b o e hx) e1 (I.base.free b o e n hx)
  · obtain ⟨o', e1⟩ := I.base.there b o e hx
    exact there b o' (neC b o e hx) e1
  · obtain ⟨m1, e1⟩ := I.base.tbls b ps e
    obtain ⟨m2, e2⟩ := tbls b _ e1
    exact ⟨m1 ++ m2, by rw [e2, Array.append_assoc]⟩
  · obtain ⟨m, hn, hl⟩ := I.loc
    refine ⟨m, ns m hn, fun i x v e1 e2 e3 => ?_⟩
    obtain ⟨u, r, l⟩ := hl i x v e1 e2 e3
    refine ⟨u, r, ?_⟩
    rcases l with l | ⟨k, c, e, z⟩
    · exact .inl l
    · exact .inr ⟨k, c, e, cellK x c e _ z⟩
  · obtain ⟨v, z⟩ := I.cell x c e
    exact ⟨v, cellK x c e v z⟩
  · obtain ⟨m, ⟨o, _, _, ho, _⟩, _⟩ := I.loc
    exact free _ o (fun z => (hch _ z).2.1 rfl) ho I.free
  · obtain ⟨v, o, ho, hd⟩ := I.cell x c e
    exact free c o (fun z => (hch c z).2.2.1 x c e rfl) ho (I.freeC x c e)
  · obtain ⟨e, n, ne, nf, d⟩ := I.pin p hp
    have nch : p.1 ∉ ch := fun z => (hch p.1 z).2.2.2 p hp rfl
    exact ⟨keep p.1 p.2 ne nf nch e n, free p.1 p.2 nch e n, ne, nf, d⟩
theorem Inv.un {t' : Nat} (I : Inv X pins σ H s) (u : Un X.fs [] H H' s.heap h') (hok : HOk X.prog X.w H' h') : Inv X pins σ H' { s with heap := h', toks := t' } := by
  obtain ⟨m, ⟨o, es, ep, ho, r⟩, _⟩ := id I.loc
  obtain ⟨sl, hL⟩ := u.any ho I.free (by simp)
  exact I.step (g' := s.gens) (d' := s.drawn) (ch := []) (fun _ z => nomatch z) (fun b o _ hb _ e n => u.keep b o e n hb (by simp)) (fun b o _ hb _ e n => u.slot b o e n hb (by simp)) (fun b o _ e n => u.free b o e n (by simp)) (fun b o _ e => u.there b o e (by simp)) u.tups u.frzs u.tbls (fun m' hm => by
    obtain ⟨o', es', ep', ho', r'⟩ := hm
    rw [ho] at ho'; cases ho'
    exact ⟨_, es', ep', hL, r'⟩) hok I.bare
theorem Inv.call {g' : Array GenState} {t' : Nat} {d' : Drawn} {ch : List Addr} (I : Inv X pins σ H s) (u : Un (frs X.stack) ch H H' s.heap h') (hok : HOk X.prog X.w H' h') (hg : AllBare g')
    (hch : ∀ b ∈ ch, (b ∈ X.ex ∨ X.s₀.heap.objs.size ≤ b) ∧ b ≠ X.env.locals ∧ (∀ x c, X.env.cells.lookup x = some c → c ≠ b) ∧ ∀ p ∈ X.pn ++ pins, p.1 ≠ b) :
    Inv X pins σ H' { s with heap := h', gens := g', drawn := d', toks := t' } := by
  obtain ⟨m, ⟨o, es, ep, ho, r⟩, _⟩ := id I.loc
  obtain ⟨sl, hL⟩ := u.any ho I.free fun z => (hch _ z).2.1 rfl
  exact I.step (ch := ch) hch (fun b o hL hb hc e n => u.keep b o e n (fun z => (List.mem_cons.mp (I.stkSub b z)).elim hL hb) hc) (fun b o _ _ hc e n => u.any e n hc) (fun b o hc e n => u.free b o e n hc) (fun b o hc e => u.there b o e hc) u.tups u.frzs u.tbls (fun m' hm => by
    obtain ⟨o', es', ep', ho', r'⟩ := hm
    rw [ho] at ho'; cases ho'
    exact ⟨_, es', ep', hL, r'⟩) hok hg
theorem Inv.turned {t' : Nat} {it : Addr} (I : Inv X pins σ H s) (k : ∀ b o, b ≠ it → s.heap.get? b = some o → h'.get? b = some o) (hn : H it = none) (hL : it ≠ X.env.locals)
    (h1 : it ∈ X.ex ∨ X.s₀.heap.objs.size ≤ it) (h2 : ∀ x c, X.env.cells.lookup x = some c → c ≠ it) (h3 : ∀ p ∈ X.pn ++ pins, p.1 ≠ it) : Inv X pins σ H { s with heap := h', toks := t' } := by
  have nit : ∀ b u, H b = some u → b ≠ it := fun b u e z => by rw [z, hn] at e; cases e
  refine I.step (g' := s.gens) (d' := s.drawn) (ch := [it]) (fun b hb => ?_) (fun b o _ _ hc e _ => k b o (fun z => hc (by simp [z])) e) (fun b o _ _ hc e _ => ⟨o.slots, k b o (fun z => hc (by simp [z])) e⟩) (fun _ _ _ _ n => n)
    (fun b o hc e => ⟨o, k b o (fun z => hc (by simp [z])) e⟩) (fun _ _ e => e) (fun _ _ _ e => e) (fun b ps e => ⟨#[], by rw [e]; simp⟩) (fun m hm => ?_) (fun b u e => ?_) I.bare
  · have e : b = it := by simpa using hb
    subst e
    exact ⟨h1, hL, h2, h3⟩
  · obtain ⟨o, es, ep, ho, r⟩ := hm
    exact ⟨o, es, ep, k _ o (Ne.symm hL) ho, r⟩
  · refine (I.hok b u e).stay (fun c v hc q => k c v ?_ q) (fun _ q => q) fun _ _ q => q
    rcases hc with z | z
    · rw [z]; exact nit b u e
    · exact nit c _ z
theorem Inv.tok (I : Inv X pins σ H s) (t : Nat) : Inv X pins σ H { s with toks := t } := I.un (h' := s.heap) (t' := t) Un.refl I.hok
theorem Inv.kept {t' : Nat} (I : Inv X pins σ H s) (k : ∀ b u, s.heap.get? b = some u → h'.get? b = some u) : Inv X pins σ H { s with heap := h', toks := t' } := I.un (Un.kept k) (I.hok.kept k)
theorem Inv.laid {a : Addr} {o : HO} {t' : Nat} (I : Inv X pins σ H s) (k : ∀ b u, s.heap.get? b = some u → h'.get? b = some u) (hp : s.heap.objs.size ≤ a) (new : ObjOk X.prog X.w (upd H a o) h' a o) :
    Inv X pins σ (upd H a o) { s with heap := h', toks := t' } := I.un (Un.laid k hp (I.hok.fresh hp)) (I.hok.laid k hp new)
theorem Inv.write {x e : Addr} {o : HO} {t' : Nat} (I : Inv X pins σ H s) (mu : Mut (H x)) (he : e = x ∨ H e = some (.own x)) (k : ∀ b u, b ≠ e → s.heap.get? b = some u → h'.get? b = some u) (heo : ∃ u, h'.get? e = some u)
    (new : ObjOk X.prog X.w (upd H x o) h' x o) : Inv X pins σ (upd H x o) { s with heap := h', toks := t' } := I.un (Un.write mu he k heo) (I.hok.write mu he k heo new)
theorem Inv.weak {σ' : List (Option V)} (I : Inv X pins σ H s) (hl : σ'.length = σ.length) (w : ∀ (i : Nat) v, σ'[i]? = some (some v) → σ[i]? = some (some v)) : Inv X pins σ' H s :=
  ⟨I.ok, I.os, I.bare, I.base, let ⟨m, hn, hl'⟩ := I.loc; ⟨m, hn, fun i x v e1 e2 e3 => hl' i x v e1 (w i v e2) e3⟩, I.cell, I.free, I.freeC, I.pin, I.hok, hl.trans I.len⟩
theorem Inv.pins_of {pins' : List (Addr × Obj)} (I : Inv X pins σ H s) (h : ∀ p ∈ pins', s.heap.get? p.1 = some p.2 ∧ H p.1 = none ∧ p.1 ≠ X.env.locals ∧ p.1 ∉ X.fs ∧ ∀ v, p.2.data ≠ .cell v) : Inv X pins' σ H s :=
  ⟨I.ok, I.os, I.bare, I.base, I.loc, I.cell, I.free, I.freeC, fun p hp => (List.mem_append.mp hp).elim (fun z => I.pin p (List.mem_append_left _ z)) (h p), I.hok, I.len⟩
theorem nodup_ix {N : List Str} (hN : N.Nodup) {i j : Nat} {x : Str} (a : N[i]? = some x) (b : N[j]? = some x) : i = j := by
  obtain ⟨h1, e1⟩ := List.getElem?_eq_some_iff.mp a
  obtain ⟨h2, e2⟩ := List.getElem?_eq_some_iff.mp b
  exact (List.getElem_inj hN).mp (e1.trans e2.symm)
theorem store_ok2 {M : Model} {A : Around} {E : Value → Shared → Prop} {i : Nat} {x : Str} {v : V} {u : Value} {Q : Unit → Shared → Prop} (I : Inv X pins σ H s) (hN : X.N.Nodup) (hi : X.N[i]? = some x) (hx : Loc X.env.scope x) (r : RelV v u)
    (h : ∀ s', Inv X pins (σ.set i (some v)) H s' → (∃ a, Heap.SameBut a s.heap s'.heap ∧ (a = X.env.locals ∨ X.env.cells.lookup x = some a)) → Q () s') (hf : X.fn x = true ∨ X.env.scope.names.lookup x = some .local := by first | exact .inl rfl | exact .inr rfl | assumption) : wpAny M A (storeName X.env x u) Q E s := by
  obtain ⟨m, hn, hl⟩ := id I.loc
  have hcls : (X.env.scope.kind == .class || (X.env.scope.kind == .module && X.env.locals != X.env.globals)) = false := by rw [I.ok.kind]; rfl
  have hiσ : i < σ.length := by rw [I.len]; exact (List.getElem?_eq_some_iff.mp hi).1
  have cne := I.cne
  have tracked : ∀ {a : Addr} {h' : Heap}, (∃ o, s.heap.get? a = some o ∧ H a = none) → Heap.SameBut a s.heap h' → HOk X.prog X.w H h' := fun {a h'} ha hs b ob e => by
    obtain ⟨_, _, hfree⟩ := ha
    refine (I.hok b ob e).stay (fun c w' hc q => (hs.2 c ?_).trans q) (fun _ q => q) fun _ _ q => q
    rintro rfl
    rcases hc with rfl | hc
    · rw [hfree] at e; cases e
    · rw [hfree] at hc; cases hc
  rcases hx with hk | hk
  · refine wpAny_storeName_local hk hn (fun h' hn' hs => ?_) hcls
    obtain ⟨oL, _, _, hoL, _⟩ := id hn
    refine h _ ⟨I.ok, I.os, I.bare, ⟨fun b o e n hb hx => ?_, fun b o e n hb hx => ?_, I.base.free, fun b o e hx => ?_, I.base.tups, I.base.frzs, I.base.tbls⟩, ⟨_, hn', fun j y v' e1 e2 e3 => ?_⟩, fun y c e => ?_, I.free, I.freeC, fun p hp => ?_, tracked ⟨oL, hoL, I.free⟩ hs, by simpa using I.len⟩ ⟨_, hs, .inl rfl⟩
    · exact (hs.2 b (Nat.ne_of_lt (Nat.lt_of_lt_of_le (Heap.lt_size e) I.ok.above))).trans (I.base.keep b o e n hb hx)
    · obtain ⟨sl, e1⟩ := I.base.slot b o e n hb hx
      exact ⟨sl, (hs.2 b (Nat.ne_of_lt (Nat.lt_of_lt_of_le (Heap.lt_size e) I.ok.above))).trans e1⟩
    · obtain ⟨o', e1⟩ := I.base.there b o e hx
      exact ⟨o', (hs.2 b (Nat.ne_of_lt (Nat.lt_of_lt_of_le (Heap.lt_size e) I.ok.above))).trans e1⟩
    · by_cases hj : j = i
      · subst hj
        rw [hi] at e1; cases e1
        rw [List.getElem?_set_self hiσ] at e2
        cases e2
        exact ⟨u, r, .inl ⟨hk, by simp⟩⟩
      · rw [List.getElem?_set_ne (Ne.symm hj)] at e2
        obtain ⟨u', r', q⟩ := hl j y v' e1 e2 e3
        refine ⟨u', r', ?_⟩
        rcases q with ⟨k, e⟩ | ⟨k, c, e, z⟩
        · refine .inl ⟨k, ?_⟩
          have : y ≠ x := fun e => hj (nodup_ix hN e1 (e ▸ hi))
          simp [this, e]
        · exact .inr ⟨k, c, e, z.sameBut hs (cne y c e)⟩
    · obtain ⟨w', z⟩ := I.cell y c e
      exact ⟨w', z.sameBut hs (cne y c e)⟩
    · obtain ⟨e, n, ne, nf, d⟩ := I.pin p hp
      exact ⟨(hs.2 p.1 ne).trans e, n, ne, nf, d⟩
  · have hfn : X.fn x = true := by
      rcases hf with z | z
      · exact z
      · rw [z] at hk; cases hk
    obtain ⟨c, hc⟩ := I.ok.has x (.inl hk)
    obtain ⟨w', z⟩ := I.cell x c hc
    refine wpAny_storeName_cell I.ok.kind hk hc z (fun h' hc' hs => ?_)
    obtain ⟨oc, hoc, hocd⟩ := id z
    refine h { s with heap := h' } ⟨I.ok, I.os, I.bare, ⟨fun b o e n hb hx => ?_, fun b o e n hb hx => ?_, I.base.free, fun b o e hx => ?_, I.base.tups, I.base.frzs, I.base.tbls⟩, ⟨m, hn.sameBut hs (Ne.symm (cne x c hc)), fun j y v' e1 e2 e3 => ?_⟩, fun y c' e => ?_, I.free, I.freeC, fun p hp => ?_, tracked ⟨oc, hoc, I.freeC x c hc⟩ hs, by simpa using I.len⟩ ⟨c, hs, .inr hc⟩
    · exact (hs.2 b (Nat.ne_of_lt (Nat.lt_of_lt_of_le (Heap.lt_size e) (I.ok.cab x c hfn hc)))).trans (I.base.keep b o e n hb hx)
    · obtain ⟨sl, e1⟩ := I.base.slot b o e n hb hx
      exact ⟨sl, (hs.2 b (Nat.ne_of_lt (Nat.lt_of_lt_of_le (Heap.lt_size e) (I.ok.cab x c hfn hc)))).trans e1⟩
    · obtain ⟨o', e1⟩ := I.base.there b o e hx
      exact ⟨o', (hs.2 b (Nat.ne_of_lt (Nat.lt_of_lt_of_le (Heap.lt_size e) (I.ok.cab x c hfn hc)))).trans e1⟩
    · by_cases hj : j = i
      · subst hj
        rw [hi] at e1; cases e1
        rw [List.getElem?_set_self hiσ] at e2
        cases e2
        exact ⟨u, r, .inr ⟨.inl hk, c, hc, hc'⟩⟩
      · rw [List.getElem?_set_ne (Ne.symm hj)] at e2
        obtain ⟨u', r', q⟩ := hl j y v' e1 e2 e3
        refine ⟨u', r', ?_⟩
        rcases q with q | ⟨k, c', e, z'⟩
        · exact .inl q
        · refine .inr ⟨k, c', e, z'.sameBut hs ?_⟩
          rintro rfl
          exact hj (nodup_ix hN e1 (I.ok.inj _ _ _ e hc ▸ hi))
    · by_cases hcc : c' = c
      · subst hcc; exact ⟨_, hc'⟩
      · obtain ⟨w2, z2⟩ := I.cell y c' e
        exact ⟨w2, z2.sameBut hs hcc⟩
    · obtain ⟨e, n, ne, nf, d⟩ := I.pin p hp
      refine ⟨(hs.2 p.1 ?_).trans e, n, ne, nf, d⟩
      intro q
      rw [q, hoc] at e
      have q' : oc = p.2 := Option.some.inj e
      exact d w' (by rw [← q']; exact hocd)
theorem store_ok {M : Model} {A : Around} {E : Value → Shared → Prop} {i : Nat} {x : Str} {v : V} {u : Value} {Q : Unit → Shared → Prop} (I : Inv X pins σ H s) (hN : X.N.Nodup) (hi : X.N[i]? = some x) (hx : Loc X.env.scope x) (r : RelV v u)
    (h : ∀ s', Inv X pins (σ.set i (some v)) H s' → Q () s') (hf : X.fn x = true ∨ X.env.scope.names.lookup x = some .local := by first | exact .inl rfl | exact .inr rfl | assumption) : wpAny M A (storeName X.env x u) Q E s :=
  store_ok2 I hN hi hx r (fun s' I' _ => h s' I') hf
end
abbrev XK := Value → Option Addr → Hp → Prop
abbrev St := List (Option V)
abbrev VK := V → Hp → Prop
abbrev TE := St → Hp → VK → Prop
abbrev TT := St → Hp → (Bool → Hp → Prop) → Prop
abbrev TA := St → Hp → (List V → Hp → Prop) → Prop
structure Ends where
  nx : St → Hp → Prop
  rt : VK
  bk : St → Hp → Prop := fun _ _ => False
  ct : St → Hp → Prop := fun _ _ => False
abbrev TS := Ends → St → Hp → Prop
def EP (X : Cx) (pins : List (Addr × Obj)) (σ : St) (Q : VK) (u : Value) (s' : Shared) : Prop := ∃ v H', Inv X pins σ H' s' ∧ RelV v u ∧ Q v H'
def TP (X : Cx) (pins : List (Addr × Obj)) (σ : St) (Q : Bool → Hp → Prop) (b : Bool) (s' : Shared) : Prop := ∃ H', Inv X pins σ H' s' ∧ Q b H'
def AP (X : Cx) (pins : List (Addr × Obj)) (σ : St) (Q : List V → Hp → Prop) (us : List Value) (s' : Shared) : Prop := ∃ vs H', Inv X pins σ H' s' ∧ Vals vs us ∧ Q vs H'
def SP (X : Cx) (pins : List (Addr × Obj)) (D : Ends) (f : Flow) (s' : Shared) : Prop :=
  match f with
  | .next => ∃ σ' H', Inv X pins σ' H' s' ∧ D.nx σ' H'
  | .brk => ∃ σ' H', Inv X pins σ' H' s' ∧ D.bk σ' H'
  | .cont => ∃ σ' H', Inv X pins σ' H' s' ∧ D.ct σ' H'
  | .ret u => ∃ v σ' H', Inv X pins σ' H' s' ∧ RelV v u ∧ D.rt v H'
def PE (X : Cx) (e : Expr) (t : TE) : Prop :=
  ∀ (pins : List (Addr × Obj)) (s : Shared) (σ : St) (H : Hp) (Q : VK), Inv X pins σ H s → t σ H Q → wpAny (model X.prog X.w) X.A (eval e X.env) (EP X pins σ Q) X.xe s
def PT (X : Cx) (e : Expr) (t : TT) : Prop :=
  ∀ (pins : List (Addr × Obj)) (s : Shared) (σ : St) (H : Hp) (Q : Bool → Hp → Prop), Inv X pins σ H s → t σ H Q → wpAny (model X.prog X.w) X.A (isTrue e X.env (eval e X.env)) (TP X pins σ Q) X.xe s
def PW (X : Cx) (e : Expr) (t : TT) : Prop :=
  ∀ (whole : Sem Value) (pins : List (Addr × Obj)) (s : Shared) (σ : St) (H : Hp) (Q : Bool → Hp → Prop), Inv X pins σ H s → t σ H Q → wpAny (model X.prog X.w) X.A (isTrue e X.env whole) (TP X pins σ Q) X.xe s
theorem PW.pt {X : Cx} {e : Expr} {t : TT} (h : PW X e t) : PT X e t := h _
def PA (X : Cx) (es : List Expr) (t : TA) : Prop :=
  ∀ (pos : Pos) (pins : List (Addr × Obj)) (s : Shared) (σ : St) (H : Hp) (Q : List V → Hp → Prop), Inv X pins σ H s → t σ H Q → wpAny (model X.prog X.w) X.A (spliced (backTo pos (starEach es X.env))) (AP X pins σ Q) X.xe s
def PS (X : Cx) (st : Stmt) (t : TS) : Prop :=
  ∀ (pins : List (Addr × Obj)) (s : Shared) (σ : St) (H : Hp) (D : Ends), Inv X pins σ H s → t D σ H → wpAny (model X.prog X.w) X.A (exec st X.env) (SP X pins D) X.xe s
def PSs (X : Cx) (st : List Stmt) (t : TS) : Prop :=
  ∀ (pins : List (Addr × Obj)) (s : Shared) (σ : St) (H : Hp) (D : Ends), Inv X pins σ H s → t D σ H → wpAny (model X.prog X.w) X.A (execs st X.env) (SP X pins D) X.xe s
theorem thn {α : Type} {t : Sem α} {Q Q' : α → Shared → Prop} {M : Model} {A : Around} {E : Value → Shared → Prop} {s : Shared} (h : wpAny M A t Q E s) (hQ : ∀ a s, Q a s → Q' a s) : wpAny M A t Q' E s := wpAny_mono h hQ fun _ _ x => x
end L2
namespace L2
open PySem PySem.Spec PyProof.Rows
section
variable {X : Cx}
def tVar (i : Nat) : TE := fun σ H Q => ∃ v, σ[i]? = some (some v) ∧ Q v H
def tC (v : V) : TE := fun _ H Q => Q v H
theorem pe_var {i : Nat} {x : Str} {pos : Pos} (hN : X.N[i]? = some x) (hv : Vis X.env.scope x) (hd : (x == ("__debug__" : Str)) = false := by decide) (hcd : (x == ("__classdict__" : Str)) = false := by decide) : PE X (.Name x pos) (tVar i) := by
  intro pins s σ H Q I h
  obtain ⟨v, e, h⟩ := h
  obtain ⟨m, hn, hl⟩ := I.loc
  obtain ⟨u, r, l⟩ := hl i x v hN e hv
  have fin : EP X pins σ Q u s := ⟨v, H, I, r, h⟩
  rcases l with ⟨hk, hm⟩ | ⟨hk, c, hc, hcell⟩
  · exact wpAny_Name (wpAny_loadName_local I.ok.kind hk hn hm fin) hd
  · rcases hk with hk | hk
    · exact wpAny_Name (wpAny_loadName_cell I.ok.kind hk hc hcell fin) hd
    · exact wpAny_Name (wpAny_loadName_free I.ok.kind hk hc hcell fin hcd) hd
theorem pe_int {i j pos} : PE X (.Constant (.int i) j pos) (tC (.int i)) := fun _ _ _ H _ I h => wpAny_Constant_int ⟨.int i, H, I.tok _, ⟨_, rfl⟩, h⟩
theorem pe_bl {b j pos} : PE X (.Constant (.bool b) j pos) (tC (.bl b)) := fun _ _ _ H _ I h => Constant_bool ⟨.bl b, H, I, rfl, h⟩
theorem pe_non {j pos} : PE X (.Constant .none j pos) (tC .non) := fun _ _ _ H _ I h => Constant_none ⟨.non, H, I, rfl, h⟩
theorem pe_str {x j pos} : PE X (.Constant (.str x) j pos) (tC (.str x)) := fun _ _ _ H _ I h => Calls.Constant_str ⟨.str x, H, I.tok _, ⟨_, rfl⟩, h⟩
def Gl (X : Cx) (x : Str) : Prop := X.env.kindOf x = some .globalImplicit
theorem ld_glob {E : Value → Shared → Prop} {pins : List (Addr × Obj)} {s : Shared} {σ : St} {H : Hp} {x : Str} {u : Value} {pos : Pos} {Q : Value → Shared → Prop} (I : Inv X pins σ H s) (hg : Gl X x) (hm : X.mg x = some u) (h : Q u s)
    (hd : (x == ("__debug__" : Str)) = false := by decide) : wpAny (model X.prog X.w) X.A (eval (.Name x pos) X.env) Q E s :=
  Calls.Name_function_global I.ok.kind hg (Calls.loadGlobal_global (by rw [I.ok.glob]; exact I.mod.glob.keeps I.bk) hm h) hd
theorem ld_blt {E : Value → Shared → Prop} {pins : List (Addr × Obj)} {s : Shared} {σ : St} {H : Hp} {x : Str} {u : Value} {pos : Pos} {Q : Value → Shared → Prop} (I : Inv X pins σ H s) (hg : Gl X x) (hm : X.mg x = none) (hv : bootBuiltins x = some u) (h : Q u s)
    (hn : x ≠ "__name__" := by decide) (hd : (x == ("__debug__" : Str)) = false := by decide) : wpAny (model X.prog X.w) X.A (eval (.Name x pos) X.env) Q E s := by
  obtain ⟨mb, h1, h2⟩ := I.mod.blt
  exact Calls.Name_function_global I.ok.kind hg (Calls.loadGlobal_builtin (by rw [I.ok.glob]; exact I.mod.glob.keeps I.bk) hm (by rw [I.ok.blt]; exact h1.keeps I.bk) ((h2 x hn).trans hv) h) hd
theorem pe_glob {x : Str} {v : V} {u : Value} {pos : Pos} (hg : Gl X x) (hm : X.mg x = some u) (r : RelV v u) (hd : (x == ("__debug__" : Str)) = false := by decide) : PE X (.Name x pos) (tC v) :=
  fun _ _ _ H _ I h => ld_glob I hg hm ⟨v, H, I, r, h⟩ hd
theorem pe_bltn {x : Str} {v : V} {u : Value} {pos : Pos} (hg : Gl X x) (hm : X.mg x = none) (hv : bootBuiltins x = some u) (r : RelV v u) (hn : x ≠ "__name__" := by decide) (hd : (x == ("__debug__" : Str)) = false := by decide) : PE X (.Name x pos) (tC v) :=
  fun _ _ _ H _ I h => ld_blt I hg hm hv ⟨v, H, I, r, h⟩ hn hd
variable {a b : Expr} {ta tb : TE} {pos : Pos}
def tB (t : TE) : TT := fun σ H Q => t σ H fun x H1 => ∃ c, x = .bl c ∧ Q c H1
theorem pt_val {e : Expr} {t : TE} (h : PE X e t) (he : ∀ whole, isTrue e X.env whole = (do let v ← whole; standAt e.pos; holding [v] (truthy v)) := by intro _; rfl) : PT X e (tB t) := by
  intro pins s σ H Q I hw
  refine isTrue_plain (thn (h pins s σ H _ I hw) fun v s1 ⟨x, H1, I1, r1, q1⟩ => ?_) (he _)
  obtain ⟨d, rfl, q⟩ := q1
  cases r1
  exact wpAny_truthy_bool ⟨H1, I1, q⟩
variable {tA tB' : TT} {rest : List Expr}
def tAnd (t u : TT) : TT := fun σ H Q => t σ H fun c H1 => if c = true then u σ H1 Q else Q false H1
def tOr (t u : TT) : TT := fun σ H Q => t σ H fun c H1 => if c = true then Q true H1 else u σ H1 Q
def tNot (t : TT) : TT := fun σ H Q => t σ H fun c H1 => Q (!c) H1
theorem pw_and1 (ha : PT X a tA) : PW X (.BoolOp .And [a] pos) tA := by
  intro wh pins s σ H Q I h
  refine isTrue_and (thn (ha pins s σ H Q I h) fun c s1 e => ?_)
  cases c with
  | true => exact isTrue_and_nil e
  | false => exact e
theorem pw_or1 (ha : PT X a tA) : PW X (.BoolOp .Or [a] pos) tA := by
  intro wh pins s σ H Q I h
  refine isTrue_or (thn (ha pins s σ H Q I h) fun c s1 e => ?_)
  cases c with
  | false => exact isTrue_or_nil e
  | true => exact e
theorem pw_and (ha : PT X a tA) (hb : PW X (.BoolOp .And (b :: rest) pos) tB') : PW X (.BoolOp .And (a :: b :: rest) pos) (tAnd tA tB') := by
  intro wh pins s σ H Q I h
  refine isTrue_and (thn (ha pins s σ H _ I h) fun c s1 ⟨H1, I1, q1⟩ => ?_)
  cases c with
  | true => exact hb wh pins s1 σ H1 Q I1 q1
  | false => exact ⟨H1, I1, q1⟩
theorem pw_or (ha : PT X a tA) (hb : PW X (.BoolOp .Or (b :: rest) pos) tB') : PW X (.BoolOp .Or (a :: b :: rest) pos) (tOr tA tB') := by
  intro wh pins s σ H Q I h
  refine isTrue_or (thn (ha pins s σ H _ I h) fun c s1 ⟨H1, I1, q1⟩ => ?_)
  cases c with
  | true => exact ⟨H1, I1, q1⟩
  | false => exact hb wh pins s1 σ H1 Q I1 q1
theorem pt_not (ha : PT X a tA) : PT X (.UnaryOp .Not a pos) (tNot tA) := by
  intro pins s σ H Q I h
  exact isTrue_not (ha pins s σ H (fun c H1 => Q (!c) H1) I h)
def tAndV (ta tb : TE) : TE := fun σ H Q => ta σ H fun x H1 => ∃ c, x = .bl c ∧ if c = true then tb σ H1 Q else Q (.bl false) H1
def tOrV (ta tb : TE) : TE := fun σ H Q => ta σ H fun x H1 => ∃ c, x = .bl c ∧ if c = true then Q (.bl true) H1 else tb σ H1 Q
theorem pe_one {op} {t : TE} (h : PE X a t) : PE X (.BoolOp op [a] pos) t := fun pins s σ H Q I hw => BoolOp_one (h pins s σ H Q I hw)
theorem pe_and (ha : PE X a ta) (hb : PE X (.BoolOp .And (b :: rest) pos) tb) : PE X (.BoolOp .And (a :: b :: rest) pos) (tAndV ta tb) := by
  intro pins s σ H Q I h
  refine BoolOp_and (thn (ha pins s σ H _ I h) fun v s1 ⟨x, H1, I1, r1, q1⟩ => ?_)
  obtain ⟨c, rfl, q1⟩ := q1
  cases r1
  refine wpAny_truthy_bool ?_
  cases c with
  | true => exact hb pins s1 σ H1 Q I1 q1
  | false => exact ⟨.bl false, H1, I1, rfl, q1⟩
theorem pe_or (ha : PE X a ta) (hb : PE X (.BoolOp .Or (b :: rest) pos) tb) : PE X (.BoolOp .Or (a :: b :: rest) pos) (tOrV ta tb) := by
  intro pins s σ H Q I h
  refine BoolOp_or (thn (ha pins s σ H _ I h) fun v s1 ⟨x, H1, I1, r1, q1⟩ => ?_)
  obtain ⟨c, rfl, q1⟩ := q1
  cases r1
  refine wpAny_truthy_bool ?_
  cases c with
  | false => exact hb pins s1 σ H1 Q I1 q1
  | true => exact ⟨.bl true, H1, I1, rfl, q1⟩
end
end L2
namespace L2
open PySem PySem.Spec PyProof.Rows
def SqL (K : PySem.W.Frag) (H : Hp) (a : Addr) (xs : List V) : Prop :=
  Rd H a (.lst xs) ∨
    ∃ (o : Obj) (its : Array Value) (n : Nat), K.lookup a = some o ∧ o.cls = .type "list" ∧ o.dict = none ∧ o.data = .seq its n ∧ its.size ≤ sizeLine ∧ Vals xs its.toList
def SqT (K : PySem.W.Frag) (H : Hp) (a : Addr) (xs : List V) : Prop :=
  Rd H a (.tup xs) ∨
    ∃ (o : Obj) (its : Array Value) (n : Nat), K.lookup a = some o ∧ o.cls = .type "tuple" ∧ o.data = .seq its n ∧ its.size ≤ sizeLine ∧ Vals xs its.toList
def absV : Value → Option V
  | .none => some .non
  | .bool b => some (.bl b)
  | .int i _ => some (.int i)
  | .str x _ => some (.str x)
  | .bytes b _ => some (.byt b)
  | .float b _ => some (.flt b)
  | .ref a => some (.ref a)
  | .type n => some (.ty n)
  | _ => none
theorem RelV.abs {x : V} {u : Value} (r : RelV x u) : absV u = some x := by
  cases x with
  | non => cases r; rfl
  | bl _ => cases r; rfl
  | int _ => obtain ⟨t, rfl⟩ := r; rfl
  | str _ => obtain ⟨t, rfl⟩ := r; rfl
  | byt _ => obtain ⟨t, rfl⟩ := r; rfl
  | flt _ => obtain ⟨t, rfl⟩ := r; rfl
  | ref _ => cases r; rfl
  | ty _ => cases r; rfl
theorem RelV.inj {x y : V} {u : Value} (r : RelV x u) (q : RelV y u) : x = y := Option.some.inj (r.abs.symm.trans q.abs)
theorem Vals.inj : ∀ {xs ys : List V} {us : List Value}, Vals xs us → Vals ys us → xs = ys
  | _, _, _, .nil, .nil => rfl
  | _, _, _, .cons r t, .cons r' t' => by rw [r.inj r', Vals.inj t t']
section
variable {X : Cx} {pins : List (Addr × Obj)} {σ : St} {H : Hp} {s : Shared} {a : Addr} {xs ys : List V}
theorem SqL.of {K : PySem.W.Frag} (h : H a = some (.lst xs)) : SqL K H a xs := .inl (.inl h)
theorem SqT.of {K : PySem.W.Frag} (h : H a = some (.tup xs)) : SqT K H a xs := .inl (.inl h)
theorem Inv.list (I : Inv X pins σ H s) (h : SqL X.K H a xs) : ∃ its : List Value, Vals xs its ∧ PlainL s.heap a its.toArray ∧ xs.length ≤ sizeLine := by
  rcases h with h | ⟨o, its, n, hk, hc, hd, hs, hz, r⟩
  · obtain ⟨z, its, n, r, e⟩ := h.ok I.hok
    exact ⟨its, r, ⟨_, n, e, rfl, rfl, rfl⟩, z⟩
  · refine ⟨its.toList, r, ⟨o, n, I.kIn a o hk, hc, hd, by simpa using hs⟩, ?_⟩
    have e := r.length
    simp only [Array.length_toList] at e
    omega
theorem Inv.tuple (I : Inv X pins σ H s) (h : SqT X.K H a xs) : ∃ its : List Value, Vals xs its ∧ IsTup s.heap a its.toArray ∧ xs.length ≤ sizeLine := by
  rcases h with h | ⟨o, its, n, hk, hc, hs, hz, r⟩
  · obtain ⟨z, its, r, p⟩ := h.ok I.hok
    exact ⟨its, r, p, z⟩
  · refine ⟨its.toList, r, ⟨o, I.kIn a o hk, hc, n, by simpa using hs⟩, ?_⟩
    have e := r.length
    simp only [Array.length_toList] at e
    omega
theorem Inv.list_inj (I : Inv X pins σ H s) (h : SqL X.K H a xs) (h' : SqL X.K H a ys) : xs = ys := by
  obtain ⟨its, r, ⟨o, n, e, _, _, d⟩, _⟩ := I.list h
  obtain ⟨its', r', ⟨o', n', e', _, _, d'⟩, _⟩ := I.list h'
  rw [e] at e'; cases e'
  rw [d] at d'
  injection d' with d1 _
  have : its = its' := by simpa using congrArg Array.toList d1
  subst this
  exact r.inj r'
theorem Inv.tuple_inj (I : Inv X pins σ H s) (h : SqT X.K H a xs) (h' : SqT X.K H a ys) : xs = ys := by
  obtain ⟨its, r, ⟨o, e, _, n, d⟩, _⟩ := I.tuple h
  obtain ⟨its', r', ⟨o', e', _, n', d'⟩, _⟩ := I.tuple h'
  rw [e] at e'; cases e'
  rw [d] at d'
  injection d' with d1 _
  have : its = its' := by simpa using congrArg Array.toList d1
  subst this
  exact r.inj r'
end
abbrev Cx.wish (X : Cx) (E : Value → Shared → Prop) : Cx := { X with xe := E }
abbrev Cx.nox (X : Cx) : Cx := X.wish fun _ _ => False
theorem Cx.Ok.wish {X : Cx} (ok : X.Ok) (E : Value → Shared → Prop) : (X.wish E).Ok :=
  ⟨ok.mod, ok.kind, ok.glob, ok.blt, ok.above, ok.inj, ok.has, ok.cab, ok.hd, ok.frames, ok.stk, ok.exf, ok.bs, ok.bsz, ok.noex, ok.exfs, ok.funs, ok.frf⟩
theorem Cx.Ok.unwish {X : Cx} {E : Value → Shared → Prop} (ok : (X.wish E).Ok) : X.Ok :=
  ⟨ok.mod, ok.kind, ok.glob, ok.blt, ok.above, ok.inj, ok.has, ok.cab, ok.hd, ok.frames, ok.stk, ok.exf, ok.bs, ok.bsz, ok.noex, ok.exfs, ok.funs, ok.frf⟩
section
variable {X : Cx} {pins : List (Addr × Obj)} {σ : St} {H : Hp} {s : Shared} {E : Value → Shared → Prop}
theorem Inv.wish (I : Inv X pins σ H s) (E : Value → Shared → Prop) : Inv (X.wish E) pins σ H s := ⟨I.ok.wish E, I.os, I.bare, I.base, I.loc, I.cell, I.free, I.freeC, I.pin, I.hok, I.len⟩
theorem Inv.unwish (I : Inv (X.wish E) pins σ H s) : Inv X pins σ H s := ⟨I.ok.unwish, I.os, I.bare, I.base, I.loc, I.cell, I.free, I.freeC, I.pin, I.hok, I.len⟩
theorem SP.unwish {D : Ends} {f : Flow} {s' : Shared} (h : SP (X.wish E) pins D f s') : SP X pins D f s' := by
  cases f with
  | next => obtain ⟨σ', H', I, q⟩ := h; exact ⟨σ', H', I.unwish, q⟩
  | brk => obtain ⟨σ', H', I, q⟩ := h; exact ⟨σ', H', I.unwish, q⟩
  | cont => obtain ⟨σ', H', I, q⟩ := h; exact ⟨σ', H', I.unwish, q⟩
  | ret u => obtain ⟨v, σ', H', I, r, q⟩ := h; exact ⟨v, σ', H', I.unwish, r, q⟩
theorem PE.nox {e : Expr} {t : TE} (h : PE X.nox e t) : PE X e t := fun pins s σ H Q I hw =>
  wpAny_mono (h pins s σ H Q (I.wish _) hw) (fun _ _ ⟨v, H', I', r, q⟩ => ⟨v, H', I'.unwish, r, q⟩) fun _ _ z => False.elim z
theorem PT.nox {e : Expr} {t : TT} (h : PT X.nox e t) : PT X e t := fun pins s σ H Q I hw =>
  wpAny_mono (h pins s σ H Q (I.wish _) hw) (fun _ _ ⟨H', I', q⟩ => ⟨H', I'.unwish, q⟩) fun _ _ z => False.elim z
theorem PSs.nox {st : List Stmt} {t : TS} (h : PSs X.nox st t) : PSs X st t := fun pins s σ H D I hw =>
  wpAny_mono (h pins s σ H D (I.wish _) hw) (fun _ _ q => q.unwish) fun _ _ z => False.elim z
end
section
variable {X : Cx} {st : Stmt} {rest : List Stmt} {t u : TS} {e : Expr} {te : TE} {pos : Pos}
def tNext : TS := fun D σ H => D.nx σ H
def tSeq (t u : TS) : TS := fun D σ H => t { D with nx := u D } σ H
theorem pss_nil : PSs X [] tNext := fun _ _ σ H _ I h => wpAny_execs_nil ⟨σ, H, I, h⟩
theorem pss_cons (h1 : PS X st t) (h2 : PSs X rest u) : PSs X (st :: rest) (tSeq t u) := by
  intro pins s σ H D I h
  refine wpAny_execs_cons (thn (h1 pins s σ H { D with nx := u D } I h) fun f s1 q => ?_)
  cases f with
  | next =>
    obtain ⟨σ', H', I', q⟩ := q
    exact h2 pins s1 σ' H' D I' q
  | ret v => exact q
  | brk => exact q
  | cont => exact q
theorem pss_one (h1 : PS X st t) : PSs X [st] t := by
  intro pins s σ H D I h
  refine wpAny_execs_cons (thn (h1 pins s σ H D I h) fun f s1 q => ?_)
  cases f with
  | next => exact wpAny_execs_nil q
  | ret v => exact q
  | brk => exact q
  | cont => exact q
theorem Inv.quiet {pins : List (Addr × Obj)} {σ : St} {H : Hp} {s : Shared} (I : Inv X pins σ H s) : interactive X.env = false := by simp [interactive, I.ok.kind]
def tDrop (te : TE) : TS := fun D σ H => te σ H fun _ H1 => D.nx σ H1
theorem ps_expr (he : PE X e te) (hs : swapsWith e none pos.line X.env = pure false := by rfl) : PS X (.Expr e pos) (tDrop te) := by
  intro pins s σ H D I h
  exact wpAny_Expr_any (thn (he pins s σ H _ I h) fun v s1 ⟨x, H1, I1, r1, q1⟩ => ⟨σ, H1, I1, q1⟩) I.quiet hs
def tRet (te : TE) : TS := fun D σ H => te σ H D.rt
theorem ps_ret (he : PE X e te) : PS X (.Return (some e) pos) (tRet te) := by
  intro pins s σ H D I h
  exact wpAny_Return_some (thn (he pins s σ H _ I h) fun v s1 ⟨x, H1, I1, r1, q1⟩ => ⟨x, σ, H1, I1, r1, q1⟩)
def tIfS (c : TT) (t u : TS) : TS := fun D σ H => c σ H fun b H1 => if b = true then t D σ H1 else u D σ H1
theorem ps_if {c : Expr} {a b : List Stmt} {tc : TT} (hc : PT X c tc) (ha : PSs X a t) (hb : PSs X b u) : PS X (.If c a b pos) (tIfS tc t u) := by
  intro pins s σ H D I h
  refine wpAny_If (thn (hc pins s σ H _ I h) fun d s1 ⟨H1, I1, q1⟩ => ?_)
  cases d with
  | true => exact ha pins s1 σ H1 D I1 q1
  | false => exact hb pins s1 σ H1 D I1 q1
def tNever : TS := fun _ _ _ => False
theorem ps_never : PS X st tNever := fun _ _ _ _ _ _ h => h.elim
theorem pss_never {sts : List Stmt} : PSs X sts tNever := fun _ _ _ _ _ _ h => h.elim
end
abbrev TG := V → St → Hp → (St → Hp → Prop) → Prop
abbrev TGs := List V → St → Hp → (St → Hp → Prop) → Prop
def PG (X : Cx) (target : Expr) (t : TG) : Prop :=
  ∀ (pins : List (Addr × Obj)) (s : Shared) (σ : St) (H : Hp) (v : V) (u : Value) (Q : St → Hp → Prop), Inv X pins σ H s → RelV v u → t v σ H Q →
    wpAny (model X.prog X.w) X.A (assign target X.env u) (fun _ s' => ∃ σ' H', Inv X pins σ' H' s' ∧ Q σ' H') X.xe s
def PGs (X : Cx) (ts : List Expr) (t : TGs) : Prop :=
  ∀ (pins : List (Addr × Obj)) (s : Shared) (σ : St) (H : Hp) (vs : List V) (us : List Value) (Q : St → Hp → Prop), Inv X pins σ H s → Vals vs us → t vs σ H Q →
    wpAny (model X.prog X.w) X.A (assignInOrder ((assignEach ts X.env).map (·.2)) us) (fun _ s' => ∃ σ' H', Inv X pins σ' H' s' ∧ Q σ' H') X.xe s
abbrev TSet := V → V → V → Hp → (Hp → Prop) → Prop
def PSet (X : Cx) (t : TSet) : Prop :=
  ∀ (pins : List (Addr × Obj)) (s : Shared) (σ : St) (H : Hp) (o i v : V) (ov iv u : Value) (Q : Hp → Prop), Inv X pins σ H s → RelV o ov → RelV i iv → RelV v u → t o i v H Q →
    wpAny (model X.prog X.w) X.A (setItem ov iv u) (fun _ s' => ∃ H', Inv X pins σ H' s' ∧ Q H') X.xe s
abbrev TIp := V → V → Hp → VK → Prop
def PIp (X : Cx) (op : Operator) (t : TIp) : Prop :=
  ∀ (pins : List (Addr × Obj)) (s : Shared) (σ : St) (H : Hp) (x y : V) (v u : Value) (Q : VK), Inv X pins σ H s → RelV x v → RelV y u → t x y H Q →
    wpAny (model X.prog X.w) X.A (inplaceOp op v u) (EP X pins σ Q) X.xe s
section
variable {X : Cx} {pos : Pos}
def gName (i : Nat) : TG := fun v σ H Q => Q (σ.set i (some v)) H
theorem pg_name {i : Nat} {x : Str} (hN : X.N.Nodup) (hi : X.N[i]? = some x) (hx : Loc X.env.scope x) (hf : X.fn x = true ∨ X.env.scope.names.lookup x = some .local := by first | exact .inl rfl | exact .inr rfl | assumption) : PG X (.Name x pos) (gName i) := by
  intro pins s σ H v u Q I r h
  exact wpAny_assign_Name (store_ok I hN hi hx r (fun s' I' => ⟨_, H, I', h⟩) hf)
def gNil : TGs := fun vs σ H Q => vs = [] ∧ Q σ H
def gCons (t : TG) (u : TGs) : TGs := fun vs σ H Q => ∃ v r, vs = v :: r ∧ t v σ H fun σ' H' => u r σ' H' Q
theorem pgs_nil : PGs X [] gNil := by
  intro pins s σ H vs us Q I r h
  obtain ⟨e, h⟩ := h
  subst e
  cases r
  exact assignInOrder_nil ⟨σ, H, I, h⟩
theorem pgs_cons {e : Expr} {es : List Expr} {t : TG} {u : TGs} (h1 : PG X e t) (h2 : PGs X es u)
    (hs : (assignEach (e :: es) X.env).map (·.2) = assign e X.env :: (assignEach es X.env).map (·.2) := by rfl) : PGs X (e :: es) (gCons t u) := by
  intro pins s σ H vs us Q I r h
  obtain ⟨v, vr, e1, h⟩ := h
  subst e1
  cases r with
  | cons r rr =>
    rw [hs]
    refine assignInOrder_cons (thn (h1 pins s σ H _ _ _ I r h) fun _ s1 ⟨σ1, H1, I1, q1⟩ => ?_)
    exact h2 pins s1 σ1 H1 _ _ Q I1 rr q1
def gTup (K : PySem.W.Frag) (n : Nat) (t : TGs) : TG := fun v σ H Q => ∃ a xs, v = .ref a ∧ SqT K H a xs ∧ xs.length = n ∧ t xs σ H Q
theorem pg_tup {es : List Expr} {k : Nat} {t : TGs} {n : Nat} (hc : X.calm = true) (h : PGs X es t)
    (hn : (assignEach es X.env).length = n := by rfl) (hst : (assignEach es X.env).findIdx? (·.1) = none := by rfl) : PG X (.Tuple es k pos) (gTup X.K n t) := by
  intro pins s σ H v u Q I r hw
  obtain ⟨a, xs, e1, hq, hl, hw⟩ := hw
  subst e1
  cases r
  obtain ⟨its, rv, ht, hz⟩ := I.tuple hq
  refine assign_Tuple_tuple (I.ok.hd hc) ht (by simp [hn, ← hl, rv.length]) hst fun h' hx => ?_
  have I1 : Inv X pins σ H { s with heap := h' } := I.kept (t' := s.toks) fun b o e => hx b o (Nat.ne_of_lt (Heap.lt_size e)) e
  exact h pins _ σ H xs _ Q I1 (by simpa using rv) hw
def gSub (to ti : TE) (t : TSet) : TG := fun v σ H Q => to σ H fun o H1 => ti σ H1 fun i H2 => t o i v H2 fun H3 => Q σ H3
theorem pg_sub {o i : Expr} {to ti : TE} {t : TSet} (ho : PE X o to) (hi : PE X i ti) (hs : PSet X t)
    (ha : ∀ v, assign (.Subscript o i pos) X.env v = (do
      let ov ← holding [v] (eval o X.env)
      let iv ← holding [v, ov] (eval i X.env)
      standAt pos
      holding [v, ov, iv] (setItem ov iv v)
      release [v, ov, iv] []) := by intro _; rfl) : PG X (.Subscript o i pos) (gSub to ti t) := by
  intro pins s σ H v u Q I r h
  rw [ha]
  refine wpAny_bind (wpAny_holding (thn (ho pins s σ H _ I h) fun ov s1 ⟨x, H1, I1, r1, q1⟩ => ?_))
  refine wpAny_bind (wpAny_holding (thn (hi pins s1 σ H1 _ I1 q1) fun iv s2 ⟨y, H2, I2, r2, q2⟩ => ?_))
  refine wpAny_bind (wpAny_standAt (wpAny_bind (wpAny_holding (thn (hs pins s2 σ H2 x y v ov iv u _ I2 r1 r2 r q2) fun _ s3 ⟨H3, I3, q3⟩ => ?_))))
  exact wpAny_release ⟨σ, H3, I3, q3⟩
def tAsg (te : TE) (g : TG) : TS := fun D σ H => te σ H fun x H1 => g x σ H1 D.nx
theorem ps_asg {tg e : Expr} {te : TE} {g : TG} (he : PE X e te) (hg : PG X tg g) (hs : swapsWithSole [tg] e pos.line X.env = pure false := by rfl) (hw : swappedStores [tg] e X.env = pure none := by rfl)
    (h1 : (assignEach [tg] X.env).map (·.2) = [assign tg X.env] := by rfl) : PS X (.Assign [tg] e pos) (tAsg te g) := by
  intro pins s σ H D I h
  refine wpAny_Assign_stores (thn (he pins s σ H _ I h) fun v s1 ⟨x, H1, I1, r1, q1⟩ => ?_) hs hw
  rw [h1]
  exact thn (hg pins s1 σ H1 x v _ I1 r1 q1) fun _ s2 q => q
theorem ps_set {i : Nat} {x : Str} {e : Expr} {te : TE} {pos' : Pos} (hN : X.N.Nodup) (hi : X.N[i]? = some x) (hx : Loc X.env.scope x) (he : PE X e te) (hs : swapsWith e (some (.Name x pos')) pos.line X.env = pure false := by rfl) (hf : X.fn x = true ∨ X.env.scope.names.lookup x = some .local := by first | exact .inl rfl | exact .inr rfl | assumption) :
    PS X (.Assign [.Name x pos'] e pos) (tAsg te (gName i)) := by
  intro pins s σ H D I h
  refine wpAny_Assign_Name (thn (he pins s σ H _ I h) fun v s1 ⟨y, H1, I1, r1, q1⟩ => ?_) hs
  exact store_ok I1 hN hi hx r1 (fun s2 I2 => ⟨_, H1, I2, q1⟩) hf
def tAug (i : Nat) (te : TE) (ti : TIp) : TS := fun D σ H => ∃ x, σ[i]? = some (some x) ∧ te σ H fun y H1 => ti x y H1 fun z H2 => D.nx (σ.set i (some z)) H2
theorem ps_aug {i : Nat} {x : Str} {e : Expr} {te : TE} {op : Operator} {ti : TIp} {pos' : Pos} (hN : X.N.Nodup) (hi : X.N[i]? = some x) (hx : Loc X.env.scope x) (he : PE X e te) (ho : PIp X op ti) (hf : X.fn x = true ∨ X.env.scope.names.lookup x = some .local := by first | exact .inl rfl | exact .inr rfl | assumption) :
    PS X (.AugAssign (.Name x pos') op e pos) (tAug i te ti) := by
  intro pins s σ H D I h
  obtain ⟨v, e1, h⟩ := h
  obtain ⟨m, hn, hl⟩ := I.loc
  have vis : Vis X.env.scope x := by rcases hx with k | k; exact .inl k; exact .inr (.inl k)
  obtain ⟨u, r, l⟩ := hl i x v hi e1 vis
  refine wpAny_AugAssign_Name ?_
  have go : wpAny (model X.prog X.w) X.A (eval e X.env) (fun w s₂ => wpAny (model X.prog X.w) X.A (inplaceOp op u w) (fun r s₃ => wpAny (model X.prog X.w) X.A (storeName X.env x r) (fun _ => SP X pins D .next) X.xe s₃) X.xe s₂) X.xe s := by
    refine thn (he pins s σ H _ I h) fun w s1 ⟨y, H1, I1, r1, q1⟩ => ?_
    refine thn (ho pins s1 σ H1 v y u w _ I1 r r1 q1) fun z s2 ⟨zv, H2, I2, r2, q2⟩ => ?_
    exact store_ok I2 hN hi hx r2 (fun s3 I3 => ⟨_, H2, I3, q2⟩) hf
  rcases l with ⟨hk, hm⟩ | ⟨hk, c, hc, hcell⟩
  · exact wpAny_loadName_local I.ok.kind hk hn hm go
  · rcases hk with hk | hk
    · exact wpAny_loadName_cell I.ok.kind hk hc hcell go
    · rcases hx with k | k
      · have : X.env.scope.names.lookup x = some .free := hk
        rw [k] at this; cases this
      · have : X.env.scope.names.lookup x = some .free := hk
        rw [k] at this; cases this
def ipI (f : Int → Int → Int) : TIp := fun x y H Q => ∃ i j, x = .int i ∧ y = .int j ∧ Q (.int (f i j)) H
theorem ip_add : PIp X .Add (ipI fun i j => i + j) := by
  intro pins s σ H x y v u Q I r1 r2 h
  obtain ⟨i, j, e1, e2, q⟩ := h
  subst e1; subst e2
  obtain ⟨t, rfl⟩ := r1
  obtain ⟨t', rfl⟩ := r2
  exact iadd_int ⟨.int _, H, I.tok _, ⟨_, rfl⟩, q⟩
theorem ip_sub : PIp X .Sub (ipI fun i j => i - j) := by
  intro pins s σ H x y v u Q I r1 r2 h
  obtain ⟨i, j, e1, e2, q⟩ := h
  subst e1; subst e2
  obtain ⟨t, rfl⟩ := r1
  obtain ⟨t', rfl⟩ := r2
  exact isub_int ⟨.int _, H, I.tok _, ⟨_, rfl⟩, q⟩
end
section
variable {X : Cx} {pos : Pos}
def tWhile (c : TT) (tb : TS) : TS := fun D σ H => ∃ W : Nat → St → Hp → Prop, (∃ m, W m σ H) ∧ ∀ m σ H, W m σ H →
  c σ H fun b H1 => if b = true then ∃ N : St → Hp → Prop, (∀ σ' H', N σ' H' → ∃ m', m' < m ∧ W m' σ' H') ∧ tb { D with nx := N, ct := N, bk := D.nx } σ H1 else D.nx σ H1
theorem ps_while {c : Expr} {body : List Stmt} {tc : TT} {tb : TS} (hp : PassesOwn (model X.prog X.w) X.A X.env X.xe) (hc : PT X c tc) (hb : PSs X body tb) : PS X (.While c body [] pos) (tWhile tc tb) := by
  intro pins s σ H D I h
  obtain ⟨W, ⟨m0, w0⟩, turn⟩ := h
  refine wpAny_While (codeAny_whileLoop (fun n s' => ∃ σ' H', Inv X pins σ' H' s' ∧ W n σ' H') ?_ m0 ⟨σ, H, I, w0⟩)
  rintro n s1 ⟨σ1, H1, I1, w1⟩
  refine wpAny_passesOwn hp (thn (hc pins s1 σ1 H1 _ I1 (turn n σ1 H1 w1)) fun b s2 ⟨H2, I2, q2⟩ => ?_)
  cases b with
  | true =>
    obtain ⟨N, hN, q2⟩ := q2
    rw [if_pos rfl]
    refine wpAny_passesOwn hp (thn (hb pins s2 σ1 H2 _ I2 q2) fun f s3 q3 => ?_)
    cases f with
    | next =>
      obtain ⟨σ3, H3, I3, n3⟩ := q3
      obtain ⟨m', hm, w3⟩ := hN σ3 H3 n3
      exact ⟨m', hm, σ3, H3, I3, w3⟩
    | cont =>
      obtain ⟨σ3, H3, I3, n3⟩ := q3
      obtain ⟨m', hm, w3⟩ := hN σ3 H3 n3
      exact ⟨m', hm, σ3, H3, I3, w3⟩
    | brk => exact q3
    | ret v => exact q3
  | false =>
    rw [if_neg Bool.false_ne_true]
    exact wpAny_execs_nil ⟨σ1, H2, I2, q2⟩
end
structure It where
  go : Nat → Hp → Prop
  yld : Nat → Hp → V → Hp → Prop
  stop : Nat → Hp → Prop
def FpOk (X : Cx) (pins : List (Addr × Obj)) (H : Hp) (b : Addr) : Prop :=
  H b = none ∧ b ≠ X.env.locals ∧ b ∉ X.fs ∧ (b ∈ X.ex ∨ X.s₀.heap.objs.size ≤ b) ∧ (∀ x c, X.env.cells.lookup x = some c → c ≠ b) ∧ ∀ p ∈ X.pn ++ pins, p.1 ≠ b
theorem Inv.fpOk {X : Cx} {pins : List (Addr × Obj)} {σ : St} {H H' : Hp} {s : Shared} {b : Addr} (I : Inv X pins σ H s) (hb : s.heap.objs.size ≤ b) (hn : H' b = none) : FpOk X pins H' b := by
  refine ⟨hn, Nat.ne_of_gt (Nat.lt_of_lt_of_le I.lt hb), I.nofs hb, .inr (Nat.le_trans I.sz hb), fun x c e z => ?_, fun p hp z => ?_⟩
  · obtain ⟨v, q⟩ := I.cell x c e
    exact absurd (Nat.lt_of_lt_of_le q.lt (by rw [z]; exact hb)) (Nat.lt_irrefl _)
  · exact absurd (Nat.lt_of_lt_of_le (Heap.lt_size (I.pin p hp).1) (by rw [z]; exact hb)) (Nat.lt_irrefl _)
structure Turn (P : Program) (w : World) (K : PySem.W.Frag) (tg : Expr) (J : It) (fp : List Addr) (it : Addr) (tn : Nat → Heap → Prop) : Prop where
  mem : it ∈ fp
  obj : ∀ i h, tn i h → ∀ b ∈ fp, ∃ o, h.get? b = some o ∧ ∀ v, o.data ≠ .cell v
  keep : ∀ i h h', tn i h → (∀ b ∈ fp, ∀ o, h.get? b = some o → h'.get? b = some o) → tn i h'
  item : ∀ (X : Cx), X.prog = P → X.w = w → X.K = K → X.calm = true → ∀ (i : Nat) (pins : List (Addr × Obj)) (s : Shared) (σ : St) (H : Hp) (E : Value → Shared → Prop), Inv X pins σ H s → (∀ b ∈ fp, FpOk X pins H b) → tn i s.heap → J.go i H →
    wpAny (model P w) X.A (pyNext (.ref it)) (fun r s1 => ∃ u, r = some u ∧
      wpAny (model P w) X.A (letOwnedTupleGo tg (.ref it) u) (fun _ s2 => ∃ x H', Inv X pins σ H' s2 ∧ RelV x u ∧ J.yld i H x H' ∧ tn (i + 1) s2.heap ∧ ∀ b ∈ fp, H' b = none) E s1) E s
  done : ∀ (X : Cx), X.prog = P → X.w = w → X.K = K → X.calm = true → ∀ (i : Nat) (pins : List (Addr × Obj)) (s : Shared) (σ : St) (H : Hp) (E : Value → Shared → Prop), Inv X pins σ H s → (∀ b ∈ fp, FpOk X pins H b) → tn i s.heap → J.stop i H →
    wpAny (model P w) X.A (pyNext (.ref it)) (fun r s1 => r = none ∧ Inv X pins σ H s1) E s
  self : ∀ (A : Around) (i : Nat) (s : Shared) (Q : Value → Shared → Prop) (E : Value → Shared → Prop), tn i s.heap → Q (.ref it) s → wpAny (model P w) A (pyIter (.ref it)) Q E s
abbrev TI := St → Hp → (It → Hp → Prop) → Prop
def PIE (X : Cx) (pins : List (Addr × Obj)) (σ : St) (tg : Expr) (R : It → Hp → Prop) (itv : Value) (s2 : Shared) : Prop :=
  ∃ (it : Addr) (fp : List Addr) (tn : Nat → Heap → Prop) (J : It) (H' : Hp), itv = .ref it ∧ Inv X pins σ H' s2 ∧ Turn X.prog X.w X.K tg J fp it tn ∧ tn 0 s2.heap ∧ (∀ b ∈ fp, FpOk X pins H' b) ∧ R J H'
def PI (X : Cx) (tg iter : Expr) (wi : TI) : Prop :=
  ∀ (pins : List (Addr × Obj)) (s : Shared) (σ : St) (H : Hp) (R : It → Hp → Prop), Inv X pins σ H s → wi σ H R →
    wpAny (model X.prog X.w) X.A (eval iter X.env) (fun v s1 => wpAny (model X.prog X.w) X.A (pyIter v) (PIE X pins σ tg R) X.xe s1) X.xe s
theorem go_of {M : Model} {A : Around} {E : Value → Shared → Prop} {s : Shared} {tg : Expr} {it : Addr} {u : Value} {o : Obj} {n : String} {vs : Array Value} {Q : Unit → Shared → Prop} (ho : s.heap.get? it = some o) (hc : o.cls = .type n) (hd : o.data = .fields vs)
    (hn : ["enumerate", "zip", "dict_itemiterator", "dict_reverseitemiterator", "odict_iterator", "itertools.zip_longest", "itertools.pairwise"].contains n = false) (hQ : Q () s) : wpAny M A (letOwnedTupleGo tg (.ref it) u) Q E s := by
  unfold letOwnedTupleGo
  cases tg <;> first
    | exact wpAny_pure hQ
    | (cases u <;> first
        | exact wpAny_pure hQ
        | (refine wpAny_bind (wpAny_load ho ?_)
           rw [hc, hd]
           show wpAny M A (if (["enumerate", "zip", "dict_itemiterator", "dict_reverseitemiterator", "odict_iterator", "itertools.zip_longest", "itertools.pairwise"].contains n && vs[0]? == some (rawInt _)) = true then _ else _) Q E s
           rw [if_neg (by intro h; rw [hn, Bool.false_and] at h; cases h)]
           exact wpAny_pure hQ))
def Itl (K : PySem.W.Frag) (a : Addr) : It :=
  ⟨fun i H => ∃ xs x, SqL K H a xs ∧ xs[i]? = some x, fun i H x H' => H' = H ∧ ∀ xs, SqL K H a xs → xs[i]? = some x, fun i H => ∃ xs, SqL K H a xs ∧ xs.length ≤ i⟩
def Itt (K : PySem.W.Frag) (a : Addr) : It :=
  ⟨fun i H => ∃ xs x, SqT K H a xs ∧ xs[i]? = some x, fun i H x H' => H' = H ∧ ∀ xs, SqT K H a xs → xs[i]? = some x, fun i H => ∃ xs, SqT K H a xs ∧ xs.length ≤ i⟩
def Itr (lo : Int) (n : Nat) : It := ⟨fun i _ => i < n, fun i H x H' => H' = H ∧ x = .int (lo + i), fun i _ => n ≤ i⟩
theorem turn_list {P : Program} {w : World} {K : PySem.W.Frag} {tg : Expr} (a it : Addr) : Turn P w K tg (Itl K a) [it] it (fun i h => h.IsListIter it a i) where
  mem := by simp
  obj := fun i h st b hb => by
    have e : b = it := by simpa using hb
    subst e
    obtain ⟨o, e, c, d⟩ := st
    exact ⟨o, e, fun v z => by rw [d] at z; cases z⟩
  keep := fun i h h' st k => st.at fun o e => k it (by simp) o e
  item := by
    intro X hP hw hK hc i pins s σ H E I hf st hg
    subst hP hw hK
    obtain ⟨xs, x, hq, hx⟩ := hg
    obtain ⟨its, rv, p, hz⟩ := I.list hq
    obtain ⟨u, hu, ru⟩ := rv.get hx
    obtain ⟨f0, f1, f2, f3, f4, f5⟩ := hf it (by simp)
    refine wpAny_pyNext_list_item st p.isList (x := u) (by simpa using hu) fun h' st' sb => ?_
    have I1 : Inv X pins σ H { s with heap := h' } := I.turned (t' := s.toks) (fun b o hb e => (sb.2 b hb).trans e) f0 f1 f3 f4 f5
    obtain ⟨o, e, c, d⟩ := id st'
    exact ⟨u, rfl, go_of (s := { s with heap := h' }) e c d (by decide) ⟨x, H, I1, ru, ⟨rfl, fun ys hy => by rw [I.list_inj hy hq]; exact hx⟩, st', fun b hb => (hf b hb).1⟩⟩
  done := by
    intro X hP hw hK hc i pins s σ H E I hf st hg
    subst hP hw hK
    obtain ⟨xs, hq, hx⟩ := hg
    obtain ⟨its, rv, p, hz⟩ := I.list hq
    obtain ⟨f0, f1, f2, f3, f4, f5⟩ := hf it (by simp)
    have hl := rv.length
    exact wpAny_pyNext_list_end (I.ok.hd hc) st p.isList (by simp; omega) fun h' eb => ⟨rfl, I.turned (t' := s.toks) (fun b o hb e => eb b o hb e) f0 f1 f3 f4 f5⟩
  self := fun _ _ _ _ _ st h => wpAny_pyIter_listiter st h
theorem turn_tuple {P : Program} {w : World} {K : PySem.W.Frag} {tg : Expr} (a it : Addr) : Turn P w K tg (Itt K a) [it] it (fun i h => h.IsTupleIter it a i) where
  mem := by simp
  obj := fun i h st b hb => by
    have e : b = it := by simpa using hb
    subst e
    obtain ⟨o, e, c, d⟩ := st
    exact ⟨o, e, fun v z => by rw [d] at z; cases z⟩
  keep := fun i h h' st k => st.at fun o e => k it (by simp) o e
  item := by
    intro X hP hw hK hc i pins s σ H E I hf st hg
    subst hP hw hK
    obtain ⟨xs, x, hq, hx⟩ := hg
    obtain ⟨its, rv, p, hz⟩ := I.tuple hq
    obtain ⟨u, hu, ru⟩ := rv.get hx
    obtain ⟨f0, f1, f2, f3, f4, f5⟩ := hf it (by simp)
    refine wpAny_pyNext_tuple_item st (show s.heap.IsTuple a its.toArray from p) (x := u) (by simpa using hu) fun h' st' sb => ?_
    have I1 : Inv X pins σ H { s with heap := h' } := I.turned (t' := s.toks) (fun b o hb e => (sb.2 b hb).trans e) f0 f1 f3 f4 f5
    obtain ⟨o, e, c, d⟩ := id st'
    exact ⟨u, rfl, go_of (s := { s with heap := h' }) e c d (by decide) ⟨x, H, I1, ru, ⟨rfl, fun ys hy => by rw [I.tuple_inj hy hq]; exact hx⟩, st', fun b hb => (hf b hb).1⟩⟩
  done := by
    intro X hP hw hK hc i pins s σ H E I hf st hg
    subst hP hw hK
    obtain ⟨xs, hq, hx⟩ := hg
    obtain ⟨its, rv, p, hz⟩ := I.tuple hq
    obtain ⟨f0, f1, f2, f3, f4, f5⟩ := hf it (by simp)
    have hl := rv.length
    exact wpAny_pyNext_tuple_end (I.ok.hd hc) st (show s.heap.IsTuple a its.toArray from p) (by simp; omega) fun h' eb => ⟨rfl, I.turned (t' := s.toks) (fun b o hb e => eb b o hb e) f0 f1 f3 f4 f5⟩
  self := fun _ _ _ _ _ st h => wpAny_pyIter_tupleiter st h
theorem turn_range {P : Program} {w : World} {K : PySem.W.Frag} {tg : Expr} (it : Addr) (lo : Int) (n : Nat) : Turn P w K tg (Itr lo n) [it] it (fun i h => IsRangeIter h it (lo + (i : Nat) * 1) ((n : Int) - (i : Nat)) 1) where
  mem := by simp
  obj := fun i h st b hb => by
    have e : b = it := by simpa using hb
    subst e
    exact ⟨_, st, fun v z => by
      have z' : Data.fields _ = Data.cell v := z
      cases z'⟩
  keep := fun i h h' st k => k it (by simp) _ st
  item := by
    intro X hP hw hK hc i pins s σ H E I hf st hg
    subst hP hw hK
    obtain ⟨f0, f1, f2, f3, f4, f5⟩ := hf it (by simp)
    have W := Walks.range (prog := X.prog) (w := X.w) (I.ok.hd hc) it lo 1 n
    refine W.item i s _ _ hg st fun v h' tk hv st' kk => ?_
    obtain ⟨t, rfl⟩ := hv
    have I1 : Inv X pins σ H { s with heap := h', toks := tk } := I.turned (fun b o hb e => kk b o (by simpa using hb) e) f0 f1 f3 f4 f5
    refine ⟨_, rfl, go_of (s := { s with heap := h', toks := tk }) (n := "range_iterator") st' rfl rfl (by decide) ⟨.int (lo + i), H, I1, ⟨t, ?_⟩, ⟨rfl, rfl⟩, st', fun b hb => (hf b hb).1⟩⟩
    rw [Int.mul_one]
  done := by
    intro X hP hw hK hc i pins s σ H E I hf st hg
    subst hP hw hK
    obtain ⟨f0, f1, f2, f3, f4, f5⟩ := hf it (by simp)
    exact wpAny_pyNext_range_end (I.ok.hd hc) st (by have : n ≤ i := hg; omega) fun h' eb => ⟨rfl, I.turned (t' := s.toks) (fun b o hb e => eb b o hb e) f0 f1 f3 f4 f5⟩
  self := fun _ _ _ _ _ st h => wpAny_pyIter_rangeiter st h
end L2
namespace L2
open PySem PySem.Spec PyProof.Rows
section
variable {X : Cx} {tg : Expr}
def iList (K : PySem.W.Frag) (tl : TE) : TI := fun σ H R => tl σ H fun x H1 => ∃ a, x = .ref a ∧ (∃ xs, SqL K H1 a xs) ∧ R (Itl K a) H1
def iTup (K : PySem.W.Frag) (tl : TE) : TI := fun σ H R => tl σ H fun x H1 => ∃ a, x = .ref a ∧ (∃ xs, SqT K H1 a xs) ∧ R (Itt K a) H1
theorem pi_list {l : Expr} {tl : TE} (hl : PE X l tl) : PI X tg l (iList X.K tl) := by
  intro pins s σ H R I h
  refine thn (hl pins s σ H _ I h) fun v s1 ⟨x, H1, I1, r1, q1⟩ => ?_
  obtain ⟨a, e, ⟨xs, hq⟩, q⟩ := q1
  subst e
  cases r1
  obtain ⟨its, rv, p, hz⟩ := I1.list hq
  refine wpAny_pyIter_list p.isList ?_
  refine ⟨s1.heap.objs.size, [s1.heap.objs.size], _, _, H1, rfl, I1.kept (t' := s1.toks) fun b o e => Heap.get?_push_of_some _ e, turn_list a _, ⟨_, Heap.get?_push_size _ rfl, rfl, rfl⟩, fun b hb => ?_, q⟩
  have e : b = s1.heap.objs.size := by simpa using hb
  subst e
  exact I1.fpOk (Nat.le_refl _) (I1.hok.fresh (Nat.le_refl _))
theorem pi_tup {l : Expr} {tl : TE} (hl : PE X l tl) : PI X tg l (iTup X.K tl) := by
  intro pins s σ H R I h
  refine thn (hl pins s σ H _ I h) fun v s1 ⟨x, H1, I1, r1, q1⟩ => ?_
  obtain ⟨a, e, ⟨xs, hq⟩, q⟩ := q1
  subst e
  cases r1
  obtain ⟨its, rv, p, hz⟩ := I1.tuple hq
  refine wpAny_pyIter_tuple (show s1.heap.IsTuple a its.toArray from p) ?_
  refine ⟨s1.heap.objs.size, [s1.heap.objs.size], _, _, H1, rfl, I1.kept (t' := s1.toks) fun b o e => Heap.get?_push_of_some _ e, turn_tuple a _, ⟨_, Heap.get?_push_size _ rfl, rfl, rfl⟩, fun b hb => ?_, q⟩
  have e : b = s1.heap.objs.size := by simpa using hb
  subst e
  exact I1.fpOk (Nat.le_refl _) (I1.hok.fresh (Nat.le_refl _))
theorem range_it {pins : List (Addr × Obj)} {σ : St} {H : Hp} {s : Shared} {R : It → Hp → Prop} {E : Value → Shared → Prop} {lo hi : Int} {t u v : Tok} {tk : Nat} (I : Inv X pins σ H s) (h1 : -(2 ^ 62) ≤ lo) (h2 : lo < 2 ^ 62) (h3 : -(2 ^ 62) ≤ hi) (h4 : hi < 2 ^ 62)
    (q : R (Itr lo (hi - lo).toNat) H) : wpAny (model X.prog X.w) X.A (pyIter (.ref s.heap.objs.size)) (PIE X pins σ tg R) E { s with heap := s.heap.push { cls := .type "range", data := .fields #[.int lo t, .int hi u, .int 1 v] }, toks := tk } := by
  refine wpAny_pyIter_range (IsRange.new ..) (small_one h1 h2 h3 h4) ?_
  have I1 : Inv X pins σ H { s with heap := s.heap.push { cls := .type "range", data := .fields #[.int lo t, .int hi u, .int 1 v] }, toks := tk } := I.kept fun b o e => Heap.get?_push_of_some _ e
  refine ⟨(s.heap.push { cls := .type "range", data := .fields #[.int lo t, .int hi u, .int 1 v] }).objs.size, [(s.heap.push { cls := .type "range", data := .fields #[.int lo t, .int hi u, .int 1 v] }).objs.size], _, _, H, rfl,
    I1.kept (t' := tk) fun b o e => Heap.get?_push_of_some _ e, turn_range _ lo (hi - lo).toNat, ?_, fun b hb => ?_, q⟩
  · have e1 : lo + ((0 : Nat) : Int) * 1 = lo := by simp
    have e2 : (((hi - lo).toNat : Nat) : Int) - ((0 : Nat) : Int) = Builtin.Range.rangeSize lo hi 1 := by rw [rangeSize_one]; split <;> omega
    show IsRangeIter _ _ (lo + ((0 : Nat) : Int) * 1) ((((hi - lo).toNat : Nat) : Int) - ((0 : Nat) : Int)) 1
    rw [e1, e2]
    exact Heap.get?_push_size _ rfl
  · have e : b = (s.heap.push { cls := .type "range", data := .fields #[.int lo t, .int hi u, .int 1 v] }).objs.size := by simpa using hb
    subst e
    exact I1.fpOk (Nat.le_refl _) (I1.hok.fresh (Nat.le_refl _))
def iRng1 (ta : TA) : TI := fun σ H R => ta σ H fun vs H1 => ∃ j : Int, vs = [.int j] ∧ -(2 ^ 62) ≤ j ∧ j < 2 ^ 62 ∧ R (Itr 0 j.toNat) H1
def iRng2 (ta : TA) : TI := fun σ H R => ta σ H fun vs H1 => ∃ i j : Int, vs = [.int i, .int j] ∧ (-(2 ^ 62) ≤ i ∧ i < 2 ^ 62 ∧ -(2 ^ 62) ≤ j ∧ j < 2 ^ 62) ∧ R (Itr i (j - i).toNat) H1
theorem pi_range1 {a : Expr} {ta : TA} {p pos : Pos} (hg : Gl X "range") (hm : X.mg "range" = none) (ha : PA X [a] ta) (hs : starEach [a] X.env = [(false, eval a X.env)] := by rfl) : PI X tg (.Call (.Name "range" p) [a] [] pos) (iRng1 ta) := by
  intro pins s σ H R I h
  refine Call_ (ld_blt I hg hm boot_range (PyProof.Rows.callWith_type1 (thn (ha pos pins s σ H _ I h) fun us s1 ⟨vs, H1, I1, r1, q1⟩ => ?_) hs rfl))
  obtain ⟨j, e, q1, q2, q⟩ := q1
  subst e
  cases r1 with
  | cons r rr =>
    cases rr
    obtain ⟨t, rfl⟩ := r
    exact call_range_1 (range_it I1 (by omega) (by omega) q1 q2 (by simpa using q))
theorem pi_range2 {a b : Expr} {ta : TA} {p pos : Pos} (hg : Gl X "range") (hm : X.mg "range" = none) (ha : PA X [a, b] ta) (hs : starEach [a, b] X.env = [(false, eval a X.env), (false, eval b X.env)] := by rfl) (hs2 : starEach [b] X.env = [(false, eval b X.env)] := by rfl) :
    PI X tg (.Call (.Name "range" p) [a, b] [] pos) (iRng2 ta) := by
  intro pins s σ H R I h
  refine Call_ (ld_blt I hg hm boot_range (PyProof.Rows.callWith_type1 (thn (ha pos pins s σ H _ I h) fun us s1 ⟨vs, H1, I1, r1, q1⟩ => ?_) (by rw [hs, hs2]) (by rw [hs2]; rfl)))
  obtain ⟨i, j, e, ⟨q1, q2, q3, q4⟩, q⟩ := q1
  subst e
  cases r1 with
  | cons r rr =>
    cases rr with
    | cons r' rr =>
      cases rr
      obtain ⟨t, rfl⟩ := r
      obtain ⟨t', rfl⟩ := r'
      exact call_range_2 (range_it I1 q1 q2 q3 q4 q)
def tFor (wi : TI) (g : TG) (tb : TS) : TS := fun D σ H => wi σ H fun J H1 => ∃ W : Nat → Nat → St → Hp → Prop, (∃ m, W 0 m σ H1) ∧ ∀ i m σ H, W i m σ H →
  (J.stop i H ∧ D.nx σ H) ∨ (J.go i H ∧ ∃ N : St → Hp → Prop, (∀ σ' H', N σ' H' → ∃ m', m' < m ∧ W (i + 1) m' σ' H') ∧ ∀ x H', J.yld i H x H' → g x σ H' fun σ2 H2 => tb { D with nx := N, ct := N, bk := D.nx } σ2 H2)
def pinsAt (fp : List Addr) (h : Heap) : List (Addr × Obj) := fp.filterMap fun b => (h.get? b).map fun o => (b, o)
theorem mem_pinsAt {fp : List Addr} {h : Heap} {b : Addr} {o : Obj} (hb : b ∈ fp) (e : h.get? b = some o) : (b, o) ∈ pinsAt fp h := List.mem_filterMap.mpr ⟨b, hb, by rw [e]; rfl⟩
theorem of_pinsAt {fp : List Addr} {h : Heap} {p : Addr × Obj} (hp : p ∈ pinsAt fp h) : p.1 ∈ fp ∧ h.get? p.1 = some p.2 := by
  obtain ⟨b, hb, e⟩ := List.mem_filterMap.mp hp
  cases q : h.get? b with
  | none => rw [q] at e; cases e
  | some o =>
    rw [q] at e
    have e' : (b, o) = p := Option.some.inj e
    subst e'
    exact ⟨hb, q⟩
theorem Inv.pinned {pins : List (Addr × Obj)} {σ : St} {H : Hp} {s : Shared} {fp : List Addr} (I : Inv X pins σ H s) (hf : ∀ b ∈ fp, FpOk X pins H b) (ho : ∀ b ∈ fp, ∃ o, s.heap.get? b = some o ∧ ∀ v, o.data ≠ .cell v) : Inv X (pins ++ pinsAt fp s.heap) σ H s :=
  I.pins_of fun p hp => (List.mem_append.mp hp).elim (fun z => I.pin p (List.mem_append_right _ z)) fun z => by
    obtain ⟨hb, e⟩ := of_pinsAt z
    obtain ⟨f0, f1, f2, _⟩ := hf p.1 hb
    obtain ⟨o, e', d⟩ := ho p.1 hb
    rw [e] at e'; cases e'
    exact ⟨e, f0, f1, f2, d⟩
theorem Inv.unpinned {pins pl : List (Addr × Obj)} {σ : St} {H : Hp} {s : Shared} (I : Inv X (pins ++ pl) σ H s) : Inv X pins σ H s := I.pins_of fun p hp => I.pin p (List.mem_append_right _ (List.mem_append_left _ hp))
theorem ps_for {iter : Expr} {body : List Stmt} {wi : TI} {g : TG} {tb : TS} {pos : Pos} (hp : PassesOwn (model X.prog X.w) X.A X.env X.xe) (hc : X.calm = true) (hi : PI X tg iter wi) (hg : PG X tg g) (hb : PSs X body tb)
    (hs : ∀ x, foldedSetIterable iter X.env x = pure x := by intro _; rfl) : PS X (.For tg iter body [] pos) (tFor wi g tb) := by
  intro pins s σ H D I h
  refine wpAny_For (thn (hi pins s σ H _ I h) fun v s1 h1 => thn h1 fun itv s2 h2 => ?_) hs
  obtain ⟨it, fp, tn, J, H2, e, I2, T, st2, f2, W, ⟨m0, w0⟩, turn⟩ := h2
  subst e
  have stat : ∀ {H' : Hp}, (∀ b ∈ fp, H' b = none) → ∀ b ∈ fp, FpOk X pins H' b := fun hn b hb => ⟨hn b hb, (f2 b hb).2⟩
  refine codeAny_forLoop_any (fun n s' => ∃ i σ' H', Inv X pins σ' H' s' ∧ tn i s'.heap ∧ (∀ b ∈ fp, H' b = none) ∧ W i n σ' H') ?_ m0 ⟨0, σ, H2, I2, st2, fun b hb => (f2 b hb).1, w0⟩
  rintro n s3 ⟨i, σ3, H3, I3, st3, fr3, w3⟩
  rcases turn i n σ3 H3 w3 with ⟨stop, qn⟩ | ⟨go, N, hN, step⟩
  · refine wpAny_passesOwn hp (thn (T.done X rfl rfl rfl hc i pins s3 σ3 H3 X.xe I3 (stat fr3) st3 stop) fun r s4 ⟨hr, I4⟩ => ?_)
    subst hr
    exact wpAny_execs_nil ⟨σ3, H3, I4, qn⟩
  · refine wpAny_passesOwn hp (thn (T.item X rfl rfl rfl hc i pins s3 σ3 H3 X.xe I3 (stat fr3) st3 go) fun r s4 ⟨u, hr, h4⟩ => ?_)
    subst hr
    refine wpAny_passesOwn hp (thn h4 fun _ s5 ⟨x, H5, I5, r5, y5, st5, fr5⟩ => ?_)
    have I5' := I5.pinned (stat fr5) (T.obj _ _ st5)
    refine wpAny_passesOwn hp (thn (hg _ s5 σ3 H5 x u _ I5' r5 (step x H5 y5)) fun _ s6 ⟨σ6, H6, I6, q6⟩ => ?_)
    refine wpAny_passesOwn hp (thn (hb _ s6 σ6 H6 _ I6 q6) fun f s7 q7 => ?_)
    have again : ∀ {σ7 : St} {H7 : Hp}, Inv X (pins ++ pinsAt fp s5.heap) σ7 H7 s7 → N σ7 H7 → ∃ m, m < n ∧ ∃ i σ' H', Inv X pins σ' H' s7 ∧ tn i s7.heap ∧ (∀ b ∈ fp, H' b = none) ∧ W i m σ' H' := fun {σ7 H7} I7 n7 => by
      obtain ⟨m', hm, w7⟩ := hN σ7 H7 n7
      refine ⟨m', hm, i + 1, σ7, H7, I7.unpinned, T.keep _ _ _ st5 fun b hb o e => (I7.pin (b, o) (List.mem_append_right _ (List.mem_append_right _ (mem_pinsAt hb e)))).1, fun b hb => ?_, w7⟩
      obtain ⟨o, e, d⟩ := T.obj _ _ st5 b hb
      exact (I7.pin (b, o) (List.mem_append_right _ (List.mem_append_right _ (mem_pinsAt hb e)))).2.1
    cases f with
    | next => obtain ⟨σ7, H7, I7, n7⟩ := q7; exact again I7 n7
    | cont => obtain ⟨σ7, H7, I7, n7⟩ := q7; exact again I7 n7
    | brk => obtain ⟨σ7, H7, I7, q7⟩ := q7; exact ⟨σ7, H7, I7.unpinned, q7⟩
    | ret v => obtain ⟨x7, σ7, H7, I7, r7, q7⟩ := q7; exact ⟨x7, σ7, H7, I7.unpinned, r7, q7⟩
end
theorem for_list {K : PySem.W.Frag} {a : Addr} {xs : List V} {g : TG} {tb : TS} {D : Ends} {σ : St} {H : Hp} (Pv : Nat → St → Hp → Prop) (h0 : Pv 0 σ H) (hl : ∀ i σ H, i ≤ xs.length → Pv i σ H → SqL K H a xs)
    (hs : ∀ i x σ H, xs[i]? = some x → Pv i σ H → g x σ H fun σ2 H2 => tb { D with nx := Pv (i + 1), ct := Pv (i + 1), bk := D.nx } σ2 H2) (hd : ∀ σ H, Pv xs.length σ H → D.nx σ H) :
    ∃ W : Nat → Nat → St → Hp → Prop, (∃ m, W 0 m σ H) ∧ ∀ i m σ H, W i m σ H →
      ((Itl K a).stop i H ∧ D.nx σ H) ∨ ((Itl K a).go i H ∧ ∃ N : St → Hp → Prop, (∀ σ' H', N σ' H' → ∃ m', m' < m ∧ W (i + 1) m' σ' H') ∧ ∀ x H', (Itl K a).yld i H x H' → g x σ H' fun σ2 H2 => tb { D with nx := N, ct := N, bk := D.nx } σ2 H2) := by
  refine ⟨fun i m σ H => m = xs.length - i ∧ i ≤ xs.length ∧ Pv i σ H, ⟨xs.length, by simp, Nat.zero_le _, h0⟩, ?_⟩
  rintro i m σ H ⟨rfl, hi, p⟩
  have q := hl i σ H hi p
  by_cases hlt : i < xs.length
  · refine .inr ⟨⟨xs, xs[i], q, by simp [hlt]⟩, Pv (i + 1), fun σ' H' p' => ⟨xs.length - (i + 1), by omega, rfl, hlt, p'⟩, fun x H' y => ?_⟩
    obtain ⟨e, y⟩ := y
    subst e
    exact hs i x σ _ (y xs q) p
  · have e : i = xs.length := by omega
    subst e
    exact .inl ⟨⟨xs, q, Nat.le_refl _⟩, hd σ H p⟩
theorem for_tup {K : PySem.W.Frag} {a : Addr} {xs : List V} {g : TG} {tb : TS} {D : Ends} {σ : St} {H : Hp} (Pv : Nat → St → Hp → Prop) (h0 : Pv 0 σ H) (hl : ∀ i σ H, i ≤ xs.length → Pv i σ H → SqT K H a xs)
    (hs : ∀ i x σ H, xs[i]? = some x → Pv i σ H → g x σ H fun σ2 H2 => tb { D with nx := Pv (i + 1), ct := Pv (i + 1), bk := D.nx } σ2 H2) (hd : ∀ σ H, Pv xs.length σ H → D.nx σ H) :
    ∃ W : Nat → Nat → St → Hp → Prop, (∃ m, W 0 m σ H) ∧ ∀ i m σ H, W i m σ H →
      ((Itt K a).stop i H ∧ D.nx σ H) ∨ ((Itt K a).go i H ∧ ∃ N : St → Hp → Prop, (∀ σ' H', N σ' H' → ∃ m', m' < m ∧ W (i + 1) m' σ' H') ∧ ∀ x H', (Itt K a).yld i H x H' → g x σ H' fun σ2 H2 => tb { D with nx := N, ct := N, bk := D.nx } σ2 H2) := by
  refine ⟨fun i m σ H => m = xs.length - i ∧ i ≤ xs.length ∧ Pv i σ H, ⟨xs.length, by simp, Nat.zero_le _, h0⟩, ?_⟩
  rintro i m σ H ⟨rfl, hi, p⟩
  have q := hl i σ H hi p
  by_cases hlt : i < xs.length
  · refine .inr ⟨⟨xs, xs[i], q, by simp [hlt]⟩, Pv (i + 1), fun σ' H' p' => ⟨xs.length - (i + 1), by omega, rfl, hlt, p'⟩, fun x H' y => ?_⟩
    obtain ⟨e, y⟩ := y
    subst e
    exact hs i x σ _ (y xs q) p
  · have e : i = xs.length := by omega
    subst e
    exact .inl ⟨⟨xs, q, Nat.le_refl _⟩, hd σ H p⟩
theorem for_range {lo : Int} {n : Nat} {g : TG} {tb : TS} {D : Ends} {σ : St} {H : Hp} (Pv : Nat → St → Hp → Prop) (h0 : Pv 0 σ H)
    (hs : ∀ i σ H, i < n → Pv i σ H → g (.int (lo + i)) σ H fun σ2 H2 => tb { D with nx := Pv (i + 1), ct := Pv (i + 1), bk := D.nx } σ2 H2) (hd : ∀ σ H, Pv n σ H → D.nx σ H) :
    ∃ W : Nat → Nat → St → Hp → Prop, (∃ m, W 0 m σ H) ∧ ∀ i m σ H, W i m σ H →
      ((Itr lo n).stop i H ∧ D.nx σ H) ∨ ((Itr lo n).go i H ∧ ∃ N : St → Hp → Prop, (∀ σ' H', N σ' H' → ∃ m', m' < m ∧ W (i + 1) m' σ' H') ∧ ∀ x H', (Itr lo n).yld i H x H' → g x σ H' fun σ2 H2 => tb { D with nx := N, ct := N, bk := D.nx } σ2 H2) := by
  refine ⟨fun i m σ H => m = n - i ∧ i ≤ n ∧ Pv i σ H, ⟨n, by simp, Nat.zero_le _, h0⟩, ?_⟩
  rintro i m σ H ⟨rfl, hi, p⟩
  by_cases hlt : i < n
  · refine .inr ⟨hlt, Pv (i + 1), fun σ' H' p' => ⟨n - (i + 1), by omega, rfl, hlt, p'⟩, fun x H' y => ?_⟩
    obtain ⟨e, y⟩ := y
    subst e y
    exact hs i σ _ hlt p
  · have e : i = n := by omega
    subst e
    exact .inl ⟨Nat.le_refl _, hd σ H p⟩
end L2
namespace L2
open PySem PySem.Spec PyProof.Rows
abbrev R2 := V → V → Hp → VK → Prop
def OpR (X : Cx) (f : Value → Value → Sem Value) (r : R2) : Prop :=
  ∀ (pins : List (Addr × Obj)) (s : Shared) (σ : St) (H : Hp) (x y : V) (v u : Value) (Q : VK), Inv X pins σ H s → RelV x v → RelV y u → r x y H Q →
    wpAny (model X.prog X.w) X.A (f v u) (EP X pins σ Q) X.xe s
def UnR (X : Cx) (f : Value → Sem Value) (r : V → Hp → VK → Prop) : Prop :=
  ∀ (pins : List (Addr × Obj)) (s : Shared) (σ : St) (H : Hp) (x : V) (v : Value) (Q : VK), Inv X pins σ H s → RelV x v → r x H Q →
    wpAny (model X.prog X.w) X.A (f v) (EP X pins σ Q) X.xe s
def CallR (X : Cx) (f : Value) (r : List V → Hp → VK → Prop) : Prop :=
  ∀ (pins : List (Addr × Obj)) (s : Shared) (σ : St) (H : Hp) (xs : List V) (us : List Value) (Q : VK), Inv X pins σ H s → Vals xs us → r xs H Q →
    wpAny (model X.prog X.w) X.A (call f us) (EP X pins σ Q) X.xe s
def tOp (r : R2) (ta tb : TE) : TE := fun σ H Q => ta σ H fun x H1 => tb σ H1 fun y H2 => r x y H2 Q
def tUn (r : V → Hp → VK → Prop) (ta : TE) : TE := fun σ H Q => ta σ H fun x H1 => r x H1 Q
def rI (C : Int → Int → Prop) (g : Int → Int → V) : R2 := fun x y H Q => ∃ i j, x = .int i ∧ y = .int j ∧ C i j ∧ Q (g i j) H
def rI0 (g : Int → Int → V) : R2 := fun x y H Q => ∃ i j, x = .int i ∧ y = .int j ∧ Q (g i j) H
def rU (g : Int → V) : V → Hp → VK → Prop := fun x H Q => ∃ i, x = .int i ∧ Q (g i) H
section
variable {X : Cx} {a b c : Expr} {ta tb tc : TE} {pos : Pos}
theorem binT (ha : PE X a ta) (hb : PE X b tb) {pins : List (Addr × Obj)} {s : Shared} {σ : St} {H : Hp} {R : V → V → Hp → Prop} (I : Inv X pins σ H s)
    (h : ta σ H fun x H1 => tb σ H1 fun y H2 => R x y H2) {Q : Value → Shared → Prop} {f : Value → Value → Sem Value}
    (hf : ∀ v u s2 x y H2, Inv X pins σ H2 s2 → RelV x v → RelV y u → R x y H2 → wpAny (model X.prog X.w) X.A (f v u) Q X.xe s2) :
    wpAny (model X.prog X.w) X.A (eval a X.env) (fun v s₁ => wpAny (model X.prog X.w) X.A (eval b X.env) (fun u s₂ => wpAny (model X.prog X.w) X.A (f v u) Q X.xe s₂) X.xe s₁) X.xe s := by
  refine thn (ha pins s σ H _ I h) fun v s1 ⟨x, H1, I1, r1, q1⟩ => ?_
  refine thn (hb pins s1 σ H1 _ I1 q1) fun u s2 ⟨y, H2, I2, r2, q2⟩ => ?_
  exact hf v u s2 x y H2 I2 r1 r2 q2
theorem pe_op {op : Operator} {r : R2} (ho : OpR X (binaryOp op) r) (ha : PE X a ta) (hb : PE X b tb) : PE X (.BinOp a op b pos) (tOp r ta tb) := by
  intro pins s σ H Q I h
  exact wpAny_BinOp (binT ha hb I h fun v u s2 x y H2 I2 rx ry q => ho pins s2 σ H2 x y v u Q I2 rx ry q)
theorem pe_un {op : UnaryOp} {r : V → Hp → VK → Prop} (ho : UnR X (unaryOp op) r) (ha : PE X a ta) : PE X (.UnaryOp op a pos) (tUn r ta) := by
  intro pins s σ H Q I h
  exact UnaryOp_ (thn (ha pins s σ H _ I h) fun v s1 ⟨x, H1, I1, r1, q1⟩ => ho pins s1 σ H1 x v Q I1 r1 q1)
theorem opI {f : Value → Value → Sem Value} {C : Int → Int → Prop} {g : Int → Int → Int}
    (rule : ∀ (i j : Int) (t u : Tok) (s : Shared) (Q : Value → Shared → Prop) (E : Value → Shared → Prop), C i j → Q (.int (g i j) s.toks) { s with toks := s.toks + 1 } → wpAny (model X.prog X.w) X.A (f (.int i t) (.int j u)) Q E s) :
    OpR X f (rI C fun i j => .int (g i j)) := by
  intro pins s σ H x y v u Q I rx ry h
  obtain ⟨i, j, rfl, rfl, hc, q⟩ := h
  obtain ⟨t, rfl⟩ := rx
  obtain ⟨t', rfl⟩ := ry
  exact rule i j t t' s _ _ hc ⟨.int (g i j), H, I.tok _, ⟨_, rfl⟩, q⟩
theorem opI0 {f : Value → Value → Sem Value} {g : Int → Int → Int}
    (rule : ∀ (i j : Int) (t u : Tok) (s : Shared) (Q : Value → Shared → Prop) (E : Value → Shared → Prop), Q (.int (g i j) s.toks) { s with toks := s.toks + 1 } → wpAny (model X.prog X.w) X.A (f (.int i t) (.int j u)) Q E s) :
    OpR X f (rI0 fun i j => .int (g i j)) := by
  intro pins s σ H x y v u Q I rx ry h
  obtain ⟨i, j, rfl, rfl, q⟩ := h
  obtain ⟨t, rfl⟩ := rx
  obtain ⟨t', rfl⟩ := ry
  exact rule i j t t' s _ _ ⟨.int (g i j), H, I.tok _, ⟨_, rfl⟩, q⟩
theorem opB0 {f : Value → Value → Sem Value} {g : Int → Int → Bool}
    (rule : ∀ (i j : Int) (t u : Tok) (s : Shared) (Q : Value → Shared → Prop) (E : Value → Shared → Prop), Q (.bool (g i j)) s → wpAny (model X.prog X.w) X.A (f (.int i t) (.int j u)) Q E s) :
    OpR X f (rI0 fun i j => .bl (g i j)) := by
  intro pins s σ H x y v u Q I rx ry h
  obtain ⟨i, j, rfl, rfl, q⟩ := h
  obtain ⟨t, rfl⟩ := rx
  obtain ⟨t', rfl⟩ := ry
  exact rule i j t t' s _ _ ⟨.bl (g i j), H, I, rfl, q⟩
def CDiv (i j : Int) : Prop := 0 < j ∧ j < 1073741824
def CMul (i j : Int) : Prop := (-(2 ^ 64) < i ∧ i < 2 ^ 64) ∨ (-(2 ^ 64) < j ∧ j < 2 ^ 64)
theorem CMul.ok {i j : Int} (h : CMul i j) : IntMulOk i j := by
  rcases h with ⟨h1, h2⟩ | ⟨h1, h2⟩
  · exact .of_left (intBits_le_64 h1 h2)
  · exact .of_right (intBits_le_64 h1 h2)
theorem op_add : OpR X (binaryOp .Add) (rI0 fun i j => .int (i + j)) := opI0 fun _ _ _ _ _ _ _ q => add_int q
theorem op_sub : OpR X (binaryOp .Sub) (rI0 fun i j => .int (i - j)) := opI0 fun _ _ _ _ _ _ _ q => sub_int q
theorem op_mul : OpR X (binaryOp .Mult) (rI CMul fun i j => .int (i * j)) := opI fun _ _ _ _ _ _ _ hc q => mul_int q hc.ok
theorem op_fdiv : OpR X (binaryOp .FloorDiv) (rI CDiv fun i j => .int (i / j)) := opI fun i j _ _ _ _ _ hc q => by
  have h1 : (0 : Int) < j := hc.1
  have h2 : j < 1073741824 := hc.2
  exact floordiv_int (by omega) (by rw [Int.fdiv_eq_ediv_of_nonneg i (by omega)]; exact q) (.inl (PyProof.noPylong_small (by omega)))
theorem op_mod : OpR X (binaryOp .Mod) (rI (fun _ j => 0 < j) fun i j => .int (i % j)) := opI fun i j _ _ _ _ _ hc q => by
  have h1 : (0 : Int) < j := hc
  exact mod_int' (by omega) (by rw [Int.fmod_eq_emod_of_nonneg i (by omega)]; exact q)
theorem unI {f : Value → Sem Value} {g : Int → Int}
    (rule : ∀ (i : Int) (t : Tok) (s : Shared) (Q : Value → Shared → Prop) (E : Value → Shared → Prop), Q (.int (g i) s.toks) { s with toks := s.toks + 1 } → wpAny (model X.prog X.w) X.A (f (.int i t)) Q E s) :
    UnR X f (rU fun i => .int (g i)) := by
  intro pins s σ H x v Q I rx h
  obtain ⟨i, rfl, q⟩ := h
  obtain ⟨t, rfl⟩ := rx
  exact rule i t s _ _ ⟨.int (g i), H, I.tok _, ⟨_, rfl⟩, q⟩
theorem un_neg : UnR X (unaryOp .USub) (rU fun i => .int (-i)) := unI fun _ _ _ _ _ q => neg_int q
end
def scal : V → V → Bool
  | .non, .non => true | .non, .int _ => true | .int _, .non => true | .non, .bl _ => true | .bl _, .non => true | .non, .str _ => true | .str _, .non => true
  | .int _, .int _ => true | .bl _, .bl _ => true | .str _, .str _ => true | .byt _, .byt _ => true
  | .int _, .str _ => true | .str _, .int _ => true | .bl _, .str _ => true | .str _, .bl _ => true
  | _, _ => false
def rEq : R2 := fun x y H Q => scal x y = true ∧ Q (.bl (decide (x = y))) H
def rNe : R2 := fun x y H Q => scal x y = true ∧ Q (.bl (!decide (x = y))) H
theorem dec_int {i j : Int} : decide (V.int i = V.int j) = (i == j) := by
  rw [Bool.eq_iff_iff]
  simp
theorem dec_bl {i j : Bool} : decide (V.bl i = V.bl j) = (i == j) := by
  rw [Bool.eq_iff_iff]
  simp
theorem dec_str {i j : Str} : decide (V.str i = V.str j) = (i == j) := by
  rw [Bool.eq_iff_iff]
  simp
theorem dec_byt {i j : Array UInt8} : decide (V.byt i = V.byt j) = (i.toList == j.toList) := by
  rw [Bool.eq_iff_iff]
  cases i
  cases j
  simp
section
variable {X : Cx} {a b c : Expr} {ta tb tc : TE} {pos : Pos}
theorem fin_bl {pins : List (Addr × Obj)} {σ : St} {H : Hp} {s : Shared} {Q : VK} {k k' : Bool} (I : Inv X pins σ H s) (q : Q (.bl k) H) (e : k = k') : EP X pins σ Q (.bool k') s := by
  subst e
  exact ⟨.bl k, H, I, rfl, q⟩
theorem op_eq : OpR X (compareOp .Eq) rEq := by
  intro pins s σ H x y v u Q I rx ry h
  obtain ⟨hs, q⟩ := h
  cases x with
  | non =>
    cases rx
    cases y with
    | non => cases ry; exact PySem.EqNone.eq_none_none (fin_bl I q (by simp))
    | bl j => cases ry; exact PySem.EqNone.eq_none_bool (fin_bl I q (by simp))
    | int j => obtain ⟨t', rfl⟩ := ry; exact PySem.EqNone.eq_none_int (fin_bl I q (by simp))
    | str j => obtain ⟨t', rfl⟩ := ry; exact PySem.EqNone.eq_none_str (fin_bl I q (by simp))
    | _ => exact absurd (show false = true from hs) Bool.false_ne_true
  | bl i =>
    cases rx
    cases y with
    | non => cases ry; exact PySem.EqNone.eq_bool_none (fin_bl I q (by simp))
    | bl j => cases ry; exact eq_bool (fin_bl I q dec_bl)
    | str j => obtain ⟨t', rfl⟩ := ry; exact PySem.EqMixed.eq_bool_str (fin_bl I q (by simp))
    | _ => exact absurd (show false = true from hs) Bool.false_ne_true
  | int i =>
    obtain ⟨t, rfl⟩ := rx
    cases y with
    | non => cases ry; exact PySem.EqNone.eq_int_none (fin_bl I q (by simp))
    | int j => obtain ⟨t', rfl⟩ := ry; exact eq_int (fin_bl I q dec_int)
    | str j => obtain ⟨t', rfl⟩ := ry; exact PySem.EqMixed.eq_int_str (fin_bl I q (by simp))
    | _ => exact absurd (show false = true from hs) Bool.false_ne_true
  | str i =>
    obtain ⟨t, rfl⟩ := rx
    cases y with
    | non => cases ry; exact PySem.EqNone.eq_str_none (fin_bl I q (by simp))
    | bl j => cases ry; exact PySem.EqMixed.eq_str_bool (fin_bl I q (by simp))
    | int j => obtain ⟨t', rfl⟩ := ry; exact PySem.EqMixed.eq_str_int (fin_bl I q (by simp))
    | str j => obtain ⟨t', rfl⟩ := ry; exact eq_str (fin_bl I q dec_str)
    | _ => exact absurd (show false = true from hs) Bool.false_ne_true
  | byt i =>
    obtain ⟨t, rfl⟩ := rx
    cases y with
    | byt j => obtain ⟨t', rfl⟩ := ry; exact PySem.W.eq_bytes (fin_bl I q dec_byt)
    | _ => exact absurd (show false = true from hs) Bool.false_ne_true
  | _ => cases y <;> exact absurd (show false = true from hs) Bool.false_ne_true
theorem op_ne : OpR X (compareOp .NotEq) rNe := by
  intro pins s σ H x y v u Q I rx ry h
  obtain ⟨hs, q⟩ := h
  cases x with
  | non =>
    cases rx
    cases y with
    | non => cases ry; exact PySem.EqNone.ne_none_none (fin_bl I q (by simp))
    | bl j => cases ry; exact PySem.EqNone.ne_none_bool (fin_bl I q (by simp))
    | int j => obtain ⟨t', rfl⟩ := ry; exact PySem.EqNone.ne_none_int (fin_bl I q (by simp))
    | str j => obtain ⟨t', rfl⟩ := ry; exact PySem.EqNone.ne_none_str (fin_bl I q (by simp))
    | _ => exact absurd (show false = true from hs) Bool.false_ne_true
  | bl i =>
    cases rx
    cases y with
    | non => cases ry; exact PySem.EqNone.ne_bool_none (fin_bl I q (by simp))
    | bl j => cases ry; exact ne_bool (fin_bl I q (congrArg not dec_bl))
    | str j => obtain ⟨t', rfl⟩ := ry; exact PySem.EqMixed.ne_bool_str (fin_bl I q (by simp))
    | _ => exact absurd (show false = true from hs) Bool.false_ne_true
  | int i =>
    obtain ⟨t, rfl⟩ := rx
    cases y with
    | non => cases ry; exact PySem.EqNone.ne_int_none (fin_bl I q (by simp))
    | int j => obtain ⟨t', rfl⟩ := ry; exact ne_int (fin_bl I q (congrArg not dec_int))
    | str j => obtain ⟨t', rfl⟩ := ry; exact PySem.EqMixed.ne_int_str (fin_bl I q (by simp))
    | _ => exact absurd (show false = true from hs) Bool.false_ne_true
  | str i =>
    obtain ⟨t, rfl⟩ := rx
    cases y with
    | non => cases ry; exact PySem.EqNone.ne_str_none (fin_bl I q (by simp))
    | bl j => cases ry; exact PySem.EqMixed.ne_str_bool (fin_bl I q (by simp))
    | int j => obtain ⟨t', rfl⟩ := ry; exact PySem.EqMixed.ne_str_int (fin_bl I q (by simp))
    | str j => obtain ⟨t', rfl⟩ := ry; exact ne_str (fin_bl I q (congrArg not dec_str))
    | _ => exact absurd (show false = true from hs) Bool.false_ne_true
  | byt i =>
    obtain ⟨t, rfl⟩ := rx
    cases y with
    | byt j => obtain ⟨t', rfl⟩ := ry; exact PySem.W.ne_bytes (fin_bl I q (congrArg not dec_byt))
    | _ => exact absurd (show false = true from hs) Bool.false_ne_true
  | _ => cases y <;> exact absurd (show false = true from hs) Bool.false_ne_true
theorem op_lt : OpR X (compareOp .Lt) (rI0 fun i j => .bl (decide (i < j))) := opB0 fun _ _ _ _ _ _ _ q => lt_int q
theorem op_le : OpR X (compareOp .LtE) (rI0 fun i j => .bl (decide (i ≤ j))) := opB0 fun _ _ _ _ _ _ _ q => le_int q
theorem op_gt : OpR X (compareOp .Gt) (rI0 fun i j => .bl (decide (j < i))) := opB0 fun _ _ _ _ _ _ _ q => gt_int q
theorem op_ge : OpR X (compareOp .GtE) (rI0 fun i j => .bl (decide (j ≤ i))) := opB0 fun _ _ _ _ _ _ _ q => ge_int q
theorem OpR.or {f : Value → Value → Sem Value} {r r' : R2} (h : OpR X f r) (h' : OpR X f r') : OpR X f (fun x y H Q => r x y H Q ∨ r' x y H Q) := by
  intro pins s σ H x y v u Q I rx ry q
  rcases q with q | q
  · exact h pins s σ H x y v u Q I rx ry q
  · exact h' pins s σ H x y v u Q I rx ry q
theorem nomark (b : Expr) {op : CmpOp} (h : op ≠ .In := by decide) (h2 : op ≠ .NotIn := by decide) : behindInMarks op b = false := by
  have e1 : (op == CmpOp.In) = false := by cases op <;> first | rfl | exact absurd rfl h
  have e2 : (op == CmpOp.NotIn) = false := by cases op <;> first | rfl | exact absurd rfl h2
  cases b <;> simp [behindInMarks, e1, e2]
theorem pe_cmpR {op : CmpOp} {r : R2} (ho : OpR X (compareOp op) r) (ha : PE X a ta) (hb : PE X b tb) (hm : behindInMarks op b = false) : PE X (.Compare a [op] [b] pos) (tOp r ta tb) := by
  intro pins s σ H Q I h
  exact wpAny_Compare1 (binT ha hb I h fun v u s2 x y H2 I2 rx ry q => ho pins s2 σ H2 x y v u Q I2 rx ry q) hm
def tTest (t : TE) : TT := fun σ H Q => t σ H fun x H' => ∃ k, x = .bl k ∧ Q k H'
theorem pt_cmpR {op : CmpOp} {r : R2} (ho : OpR X (compareOp op) r) (ha : PE X a ta) (hb : PE X b tb) (hm : behindInMarks op b = false) : PT X (.Compare a [op] [b] pos) (tTest (tOp r ta tb)) := by
  intro pins s σ H Q I h
  refine wpAny_isTrue_Compare1 (thn (ha pins s σ H _ I h) fun v s1 ⟨x, H1, I1, r1, q1⟩ => thn (hb pins s1 σ H1 _ I1 q1) fun u s2 ⟨y, H2, I2, r2, q2⟩ =>
    thn (ho pins s2 σ H2 x y v u _ I2 r1 r2 q2) fun c s3 ⟨z, H3, I3, r3, k, e, q3⟩ => ?_) hm
  subst e
  cases r3
  exact wpAny_truthy_bool ⟨H3, I3, q3⟩
theorem line63 : (sizeLine : Nat) < 2 ^ 63 := by rw [sizeLine_eq]; decide
theorem vals1 {x : V} {us : List Value} (r : Vals [x] us) : ∃ u, us = [u] ∧ RelV x u := by
  cases r with
  | cons r1 r2 => cases r2; exact ⟨_, rfl, r1⟩
theorem vals2 {x y : V} {us : List Value} (r : Vals [x, y] us) : ∃ u w', us = [u, w'] ∧ RelV x u ∧ RelV y w' := by
  cases r with
  | cons r1 r2 =>
    cases r2 with
    | cons r3 r4 => cases r4; exact ⟨_, _, rfl, r1, r3⟩
theorem call_max2 (hc : X.calm = true) : CallR X (.builtin "max") (fun xs H Q => ∃ i j, xs = [.int i, .int j] ∧ Q (.int (if j > i then j else i)) H) := by
  intro pins s σ H xs us Q I r h
  obtain ⟨i, j, rfl, q⟩ := h
  obtain ⟨u, w', rfl, ⟨t, rfl⟩, ⟨t', rfl⟩⟩ := vals2 r
  refine max_two_ints (I.ok.hd hc) fun h' tk k => ⟨_, H, I.kept k, ?_, q⟩
  by_cases hj : j > i
  · rw [if_pos hj, if_pos hj]; exact ⟨_, rfl⟩
  · rw [if_neg hj, if_neg hj]; exact ⟨_, rfl⟩
end
end L2
namespace L2
open PySem PySem.Spec PyProof.Rows
section
variable {prog : Program} {w : World} {A : Around} {E : Value → Shared → Prop} {s : Shared} {K : PySem.W.Frag} {x dx C f : Addr} {mA : Str → Option Value} {name : Str} {v : Value}
end
section
variable {P : Program} {w : World} {H H' : Hp} {h h' : Heap} {a C dx : Addr} {fs fs' : List (Str × V)}
end
structure Cls (K : PySem.W.Frag) (C : Addr) : Prop where
  pg : PySem.W.plainGet K C Str.empty = true
  hd : PySem.W.hasDictIn K C = true
  po : PySem.W.plainOver K C = true
  sa : PySem.W.findIn K (.ref C) "__setattr__" = some (some (.builtin "object.__setattr__"))
theorem Cls.get {K : PySem.W.Frag} {C : Addr} (c : Cls K C) (f : Str) : PySem.W.plainGet K C f = true := c.pg
section
variable {X : Cx} {pins : List (Addr × Obj)} {σ : St} {H : Hp} {s : Shared} {a C dx : Addr} {fs : List (Str × V)} {f : Str} {v : V} {A : Around} {E : Value → Shared → Prop}
end
section
variable {X : Cx} {o e value : Expr} {f : Str} {pos pos' tpos : Pos} {ta tv : TE}
end
section
variable {X : Cx} {pins : List (Addr × Obj)} {σ : St} {H : Hp} {s : Shared} {A : Around} {E : Value → Shared → Prop} {Q : Value → Shared → Prop} {c : Value} {b : Bool}
end
end L2
namespace L2
open PySem PySem.Spec PyProof.Rows
structure Room (k : Nat) (A : Around) : Prop where
  hd : A.handled = none
  dp : A.depth + 3 * k + 5 < recursionLimit
  un : A.units + 16 * k + 200 < cLine
theorem Room.mono {j k : Nat} {A : Around} (r : Room k A) (h : j ≤ k) : Room j A := ⟨r.hd, by have := r.dp; omega, by have := r.un; omega⟩
theorem Room.deeper {k : Nat} {A : Around} (r : Room (k + 1) A) (env : Env) : Room k (A.deeper env) :=
  ⟨r.hd, by have := r.dp; show A.depth + 1 + 3 * k + 5 < _; omega, by have := r.un; show A.units + 3 + 16 * k + 200 < _; omega⟩
theorem Room.depth {k : Nat} {A : Around} (r : Room k A) : A.depth < recursionLimit := by have := r.dp; omega
theorem Room.units {k : Nat} {A : Around} (r : Room k A) : A.units + 64 < cLine := by have := r.un; omega
def tNil : TA := fun _ H Q => Q [] H
def tCons (ta : TE) (tr : TA) : TA := fun σ H Q => ta σ H fun x H1 => tr σ H1 fun xs H2 => Q (x :: xs) H2
section
variable {X : Cx} {e : Expr} {es : List Expr} {te : TE} {t : TA} {pos : Pos}
theorem pa_nil : PA X [] tNil := fun _ _ _ _ H Q I h => Calls.spliced_nil ⟨[], H, I, .nil, h⟩
theorem pa_cons (ha : PE X e te) (hr : PA X es t) (hs : starEach (e :: es) X.env = (false, eval e X.env) :: starEach es X.env := by rfl) : PA X (e :: es) (tCons te t) := by
  intro pos pins s σ H Q I h
  rw [hs]
  show wpAny _ _ (spliced ((false, eval e X.env) :: backTo pos (starEach es X.env))) _ _ s
  refine Calls.spliced_cons (thn (ha pins s σ H _ I h) fun u s1 ⟨x, H1, I1, r1, q1⟩ => ?_)
  exact thn (hr pos pins s1 σ H1 _ I1 q1) fun us s2 ⟨xs, H2, I2, r2, q2⟩ => ⟨x :: xs, H2, I2, .cons r1 r2, q2⟩
def tTup (t : TA) : TE := fun σ H Q => t σ H fun xs H1 => xs.length ≤ sizeLine ∧ ∀ p, H1 p = none → Q (.ref p) (upd H1 p (.tup xs))
def tLst (t : TA) : TE := fun σ H Q => t σ H fun xs H1 => xs.length ≤ sizeLine ∧ ∀ p, H1 p = none → Q (.ref p) (upd H1 p (.lst xs))
theorem pe_tup {x1} (h : PA X es t) : PE X (.Tuple es x1 pos) (tTup t) := by
  intro pins s σ H Q I hq
  refine wpAny_Tuple_spliced (thn (h pos pins s σ H _ I hq) fun us s1 ⟨xs, H1, I1, r, z, q⟩ => ⟨by rw [← r.length]; exact z, ?_⟩)
  have hf : H1 s1.heap.objs.size = none := I1.hok.fresh (Nat.le_refl _)
  refine ⟨.ref s1.heap.objs.size, upd H1 s1.heap.objs.size (.tup xs), I1.laid (t' := s1.toks) (fun b u e => Heap.get?_push_of_some _ e) (Nat.le_refl _) ?_, rfl, q _ hf⟩
  exact ⟨z, us, r, ⟨_, Heap.get?_push_size _ rfl, rfl, _, rfl⟩⟩
theorem pe_lst (h : PA X es t) : PE X (.List es pos) (tLst t) := by
  intro pins s σ H Q I hq
  refine wpAny_List_spliced (thn (h pos pins s σ H _ I hq) fun us s1 ⟨xs, H1, I1, r, z, q⟩ => ⟨by rw [← r.length]; exact z, ?_⟩)
  have hf : H1 s1.heap.objs.size = none := I1.hok.fresh (Nat.le_refl _)
  refine ⟨.ref s1.heap.objs.size, upd H1 s1.heap.objs.size (.lst xs), I1.laid (t' := s1.toks) (fun b u e => Heap.get?_push_of_some _ e) (Nat.le_refl _) ?_, rfl, q _ hf⟩
  exact ⟨z, us, 0, r, Heap.get?_push_size _ rfl⟩
end
abbrev Sp := List V → Hp → VK → XK → Prop
abbrev CXT := List Env → Hp → Shared → XK → Value → Shared → Prop
structure Env0 (P : Program) (w : World) (K : PySem.W.Frag) (mg : Str → Option Value) (base : Heap) (A : Around) (outer : List Env) (s : Shared) (H : Hp) : Prop where
  frames : A.frames = some outer
  mod : Mod K mg base
  bs : ∀ b o, base.get? b = some o → s.heap.get? b = some o ∧ H b = none
  bsz : base.objs.size ≤ s.heap.objs.size
  funs : s.heap.FunFrames base outer
  frf : ∀ b ∈ frs outer, H b = none
  hok : HOk P w H s.heap
  bare : AllBare s.gens
def CE (outer : List Env) (P : Program) (w : World) (H : Hp) (s : Shared) (Q : VK) (u : Value) (s' : Shared) : Prop :=
  ∃ v H', s'.os = s.os ∧ AllBare s'.gens ∧ Un (frs outer) [] H H' s.heap s'.heap ∧ HOk P w H' s'.heap ∧ RelV v u ∧ Q v H'
def CR (CX : CXT) (outer : List Env) (P : Program) (w : World) (H : Hp) (s : Shared) (Q : VK) (E : XK) (r : Result) (s' : Shared) : Prop :=
  match r with
  | .ok (.ret u) => CE outer P w H s Q u s'
  | .ok _ => False
  | .error e => CX outer H s E e s'
structure FnOk (P : Program) (w : World) (K : PySem.W.Frag) (mg : Str → Option Value) (base : Heap) (CX : CXT) (k : Nat) (f : Addr) (fd : FuncData) (ps : List Str) (sp : Sp) : Prop where
  len : ∀ vs H Q E, sp vs H Q E → vs.length = ps.length
  run : ∀ (A : Around) (outer : List Env) (s : Shared) (H : Hp) (args : Args) (us : List Value) (vs : List V) (Q : VK) (E : XK), Room k A → Env0 P w K mg base A outer s H → BindsTo s fd args (ps.zip us) → Vals vs us → sp vs H Q E →
    codeAny (model P w) A (.call (.ref f) args) (CR CX outer P w H s Q E) s
theorem FnOk.mono {P : Program} {w : World} {K : PySem.W.Frag} {mg : Str → Option Value} {base : Heap} {CX : CXT} {j k : Nat} {f : Addr} {fd : FuncData} {ps : List Str} {sp : Sp} (F : FnOk P w K mg base CX j f fd ps sp) (h : j ≤ k) :
    FnOk P w K mg base CX k f fd ps sp := ⟨F.len, fun A outer s H args us vs Q E hr => F.run A outer s H args us vs Q E (hr.mono h)⟩
theorem FnOk.imp {P : Program} {w : World} {K : PySem.W.Frag} {mg : Str → Option Value} {base : Heap} {CX : CXT} {k : Nat} {f : Addr} {fd : FuncData} {ps : List Str} {sp sp' : Sp} (F : FnOk P w K mg base CX k f fd ps sp)
    (h : ∀ vs H Q E, sp' vs H Q E → sp vs H Q E) : FnOk P w K mg base CX k f fd ps sp' :=
  ⟨fun vs H Q E q => F.len vs H Q E (h _ _ _ _ q), fun A outer s H args us vs Q E hr he hb hv hs => F.run A outer s H args us vs Q E hr he hb hv (h _ _ _ _ hs)⟩
section
variable {X : Cx} {pins : List (Addr × Obj)} {σ : St} {H : Hp} {s s' : Shared}
theorem Inv.env0 (I : Inv X pins σ H s) : Env0 X.prog X.w X.K X.mg X.base X.A X.stack s H :=
  ⟨I.ok.frames, I.ok.mod, I.bs, Nat.le_trans I.ok.bsz I.sz, I.stack, I.stkFree, I.hok, I.bare⟩
theorem Inv.after {Q : VK} {u : Value} (I : Inv X pins σ H s) (h : CE X.stack X.prog X.w H s Q u s') : EP X pins σ Q u s' := by
  obtain ⟨v, H', os, bare, un, hok, r, q⟩ := h
  obtain ⟨hh, g, d, t, os'⟩ := s'
  obtain rfl : os' = s.os := os
  exact ⟨v, H', I.call (h' := hh) (g' := g) (d' := d) (t' := t) (ch := []) un hok bare (fun b z => absurd z (by simp)), r, q⟩
end
def tCall (sp : Sp) (dvs : List V) (E : XK) (t : TA) : TE := fun σ H Q => t σ H fun vs H1 => sp (vs ++ dvs) H1 Q E
def Binds (K : PySem.W.Frag) (fd : FuncData) (ps : List Str) (ds : List Value) : Prop :=
  ∀ (s : Shared) (us : List Value), K.In s.heap → (us ++ ds).length = ps.length → BindsTo s fd ⟨us, []⟩ (ps.zip (us ++ ds))
theorem Binds.all {K : PySem.W.Frag} {fd : FuncData} {ps : List Str} (h : ∀ us : List Value, us.length = ps.length → bindArgs fd ⟨us, []⟩ = pure (ps.zip us)) : Binds K fd ps [] := fun s us _ hl => by
  rw [List.append_nil] at hl ⊢
  exact .of_eq (h us hl)
def Passes (CX : CXT) (X : Cx) (E : XK) : Prop := ∀ (pins : List (Addr × Obj)) (σ : St) (H : Hp) (s : Shared) (e : Value) (s' : Shared), Inv X pins σ H s → CX X.stack H s E e s' → X.xe e s'
section
variable {X : Cx} {CX : CXT} {k : Nat} {f C : Addr} {fd : FuncData} {ps : List Str} {sp : Sp} {dvs : List V} {ds : List Value} {E : XK} {x m : Str} {p pos apos : Pos} {e o : Expr} {es : List Expr} {ta : TE} {t : TA}
theorem run_fn {pins : List (Addr × Obj)} {σ : St} {H : Hp} {s : Shared} {Q : VK} {us : List Value} {vs : List V} (F : FnOk X.prog X.w X.K X.mg X.base CX k f fd ps sp) (hr : Room k X.A) (hb : Binds X.K fd ps ds) (hd : Vals dvs ds) (hx : Passes CX X E)
    (I : Inv X pins σ H s) (r : Vals vs us) (h : sp (vs ++ dvs) H Q E) : wpAny (model X.prog X.w) X.A (call (.ref f) us) (EP X pins σ Q) X.xe s := by
  have r2 : Vals (vs ++ dvs) (us ++ ds) := r.append hd
  have hl : (us ++ ds).length = ps.length := by rw [← r2.length]; exact F.len _ _ _ _ h
  refine wpAny_call (codeAny_mono (F.run X.A X.stack s H ⟨us, []⟩ (us ++ ds) (vs ++ dvs) Q E hr I.env0 (hb s us I.kIn hl) r2 h) fun r s' hq => ?_)
  cases r with
  | error e => exact hx pins σ H s e s' I hq
  | ok fl =>
    cases fl with
    | ret u => exact I.after hq
    | next => exact False.elim hq
    | brk => exact False.elim hq
    | cont => exact False.elim hq
theorem pe_call (F : FnOk X.prog X.w X.K X.mg X.base CX k f fd ps sp) (hr : Room k X.A) (hg : Gl X x) (hm : X.mg x = some (.ref f)) (hk : PySem.W.keepIn X.K (.ref f) = true) (hb : Binds X.K fd ps ds) (hd : Vals dvs ds) (hx : Passes CX X E)
    (ha : PA X (e :: es) t) (hdb : (x == ("__debug__" : Str)) = false := by decide) (he : starEach (e :: es) X.env = (false, eval e X.env) :: starEach es X.env := by rfl) (hpl : (backTo pos (starEach es X.env)).any (·.1) = false := by rfl) :
    PE X (.Call (.Name x p) (e :: es) [] pos) (tCall sp dvs E t) := by
  intro pins s σ H Q I h
  refine wpAny_Call_Name_kw (ld_glob I hg hm ?_ hdb)
  refine PySem.W.callWith_K (h₀ := X.base) I.ok.mod.kin hk (thn (ha pos pins s σ H _ I h) fun us s1 ⟨vs, H1, I1, r, q⟩ => ⟨I1.kIn, ?_⟩) he hpl
  exact run_fn F hr hb hd hx I1 r q
end
section
variable {X : Cx} {CX : CXT} {k : Nat} {f C : Addr} {fd : FuncData} {ps ks : List Str} {sp : Sp} {E : XK} {x m : Str} {p pos apos kpos : Pos} {e o : Expr} {es : List Expr} {kws : List Keyword} {te ta : TE} {t tk : TA} {nm : Option Str}
variable {g : List Value → List Value → List Value} {gV : List V → List V → List V}
end
structure FnScope (N P : List Str) (sc : Scope) : Prop where
  kind : sc.kind = .function
  co : sc.isCoroutine = false
  gen : sc.isGenerator = false
  nd : N.Nodup
  pre : N.take P.length = P
  par : ∀ x ∈ P, sc.names.lookup x = some .local ∨ sc.names.lookup x = some .cell
  nofree : ∀ y ∈ sc.names, y.2 ≠ .free
theorem bindL_out {kindOf : Str → Option NameKind} {x : Str} : ∀ {binds : List (Str × Value)} {m : Str → Option Value}, (∀ v, (x, v) ∉ binds) → bindL kindOf binds m x = m x
  | [], _, _ => rfl
  | (n, v) :: r, m, h => by
    unfold bindL
    rw [bindL_out fun w hw => h w (List.mem_cons_of_mem _ hw)]
    split
    · have : x ≠ n := by rintro rfl; exact h v List.mem_cons_self
      simp [this]
    · rfl
theorem bindC_out {kindOf : Str → Option NameKind} {x : Str} : ∀ {binds : List (Str × Value)} {m : Str → Option Value}, (∀ v, (x, v) ∉ binds) → bindC kindOf binds m x = m x
  | [], _, _ => rfl
  | (n, v) :: r, m, h => by
    unfold bindC
    rw [bindC_out fun w hw => h w (List.mem_cons_of_mem _ hw)]
    split
    · rfl
    · have : x ≠ n := by rintro rfl; exact h v List.mem_cons_self
      simp [this]
theorem bindL_get {kindOf : Str → Option NameKind} {x : Str} {v : Value} : ∀ {P : List Str} {vs : List Value} {i : Nat} {m : Str → Option Value}, P.Nodup → P[i]? = some x → vs[i]? = some v → kindOf x = some .local →
    bindL kindOf (P.zip vs) m x = some v
  | [], _, _, _, _, h, _, _ => by simp at h
  | _ :: _, [], _, _, _, _, h, _ => by simp at h
  | p :: P, w :: vs, 0, m, nd, h1, h2, hk => by
    simp at h1 h2; subst h1; subst h2
    show bindL kindOf ((p, w) :: P.zip vs) m p = _
    unfold bindL
    rw [bindL_out fun v hv => (List.nodup_cons.mp nd).1 (List.of_mem_zip hv).1, if_pos hk]
    simp
  | p :: P, w :: vs, i + 1, m, nd, h1, h2, hk => by
    show bindL kindOf ((p, w) :: P.zip vs) m x = _
    unfold bindL
    exact bindL_get (i := i) (List.nodup_cons.mp nd).2 (by simpa using h1) (by simpa using h2) hk
theorem bindC_get {kindOf : Str → Option NameKind} {x : Str} {v : Value} : ∀ {P : List Str} {vs : List Value} {i : Nat} {m : Str → Option Value}, P.Nodup → P[i]? = some x → vs[i]? = some v → kindOf x ≠ some .local →
    bindC kindOf (P.zip vs) m x = some v
  | [], _, _, _, _, h, _, _ => by simp at h
  | _ :: _, [], _, _, _, _, h, _ => by simp at h
  | p :: P, w :: vs, 0, m, nd, h1, h2, hk => by
    simp at h1 h2; subst h1; subst h2
    show bindC kindOf ((p, w) :: P.zip vs) m p = _
    unfold bindC
    rw [bindC_out fun v hv => (List.nodup_cons.mp nd).1 (List.of_mem_zip hv).1, if_neg hk]
    simp
  | p :: P, w :: vs, i + 1, m, nd, h1, h2, hk => by
    show bindC kindOf ((p, w) :: P.zip vs) m x = _
    unfold bindC
    exact bindC_get (i := i) (List.nodup_cons.mp nd).2 (by simpa using h1) (by simpa using h2) hk
def start (N : List Str) (vs : List V) : St := vs.map some ++ List.replicate (N.length - vs.length) none
def cxOf (CX : CXT) (P : Program) (w : World) (K : PySem.W.Frag) (mg : Str → Option Value) (base : Heap) (N : List Str) (qual : Str) (scope : Scope) (f : Addr) (cd : Value) (A : Around) (outer : List Env) (s : Shared) (H : Hp) (E : XK) : Cx where
  prog := P
  w := w
  K := K
  mg := mg
  base := base
  A := A.deeper (envOfC qual scope s.heap.objs.size f cd)
  N := N
  s₀ := s
  H₀ := H
  env := envOfC qual scope s.heap.objs.size f cd
  outer := outer
  stack := envOfC qual scope s.heap.objs.size f cd :: outer
  ex := []
  calm := true
  fn := fun _ => true
  pn := []
  xe := fun e s' => wpAny (model P w) (A.deeper (envOfC qual scope s.heap.objs.size f cd)) (leaving (envOfC qual scope s.heap.objs.size f cd) e) (fun _ s'' => CX outer H s E e s'') (fun e' s'' => CX outer H s E e' s'') s'
theorem cell_has {sc : Scope} {n : Nat} {x : Str} (h : sc.names.lookup x = some .cell) : ∃ c, (cellsFrom n sc.names []).lookup x = some c := by
  have q := PySem.W.cellsFrom_some sc.names n [] (.inl h)
  exact Option.isSome_iff_exists.mp q
theorem inv_start {CX : CXT} {P : Program} {w : World} {K : PySem.W.Frag} {mg : Str → Option Value} {base : Heap} {N ps : List Str} {qual : Str} {scope : Scope} {f : Addr} {cd : Value} {A : Around} {outer : List Env} {s s1 : Shared} {H : Hp} {E : XK} {us : List Value} {vs : List V}
    (S : FnScope N ps scope) (hd : A.handled = none) (e0 : Env0 P w K mg base A outer s H) (hl : vs.length = ps.length) (r : Vals vs us)
    (x : InCallC s s.heap.objs.size (bindL (envOfC qual scope s.heap.objs.size f cd).kindOf (ps.zip us) fun _ => none) (cellsFrom (s.heap.objs.size + 1) scope.names []) (bindC (envOfC qual scope s.heap.objs.size f cd).kindOf (ps.zip us) fun _ => none) s1) :
    Inv (cxOf CX P w K mg base N qual scope f cd A outer s H E) [] (start N vs) H s1 := by
  have hpl : ps.length ≤ N.length := by have := congrArg List.length S.pre; rw [List.length_take] at this; omega
  obtain ⟨h1, tk, rfl, hk⟩ := x.done
  have noA : ∀ b : Addr, b ∉ (cxOf CX P w K mg base N qual scope f cd A outer s H E).ex := fun b z => absurd (show b ∈ ([] : List Addr) from z) (by simp)
  refine ⟨⟨e0.mod, S.kind, rfl, rfl, Nat.le_refl _, fun y z c h1 h2 => ?_, fun y hy => ?_, fun y c _ h => ?_, fun _ => hd, Around.frames_deeper e0.frames, .inr ⟨rfl, rfl⟩, fun b z => absurd z (noA b), e0.bs, e0.bsz, fun b _ _ => noA b, fun b z => absurd z (noA b), e0.funs, e0.frf⟩,
    rfl, e0.bare, Un.kept hk, ⟨_, x.toInCall.ns, fun i y v h1 h2 h3 => ?_⟩, fun y c h => ⟨_, x.cell y c h⟩, e0.hok.fresh (Nat.le_refl _), fun y c h => ?_, fun p hp => absurd (show p ∈ ([] : List (Addr × Obj)) from hp) (by simp), e0.hok.kept hk, ?_⟩
  · exact name_of_addr x.apart (PySem.mem_of_lookup h1) (PySem.mem_of_lookup h2)
  · have hy : scope.names.lookup y = some .cell ∨ scope.names.lookup y = some .free := hy
    rcases hy with hy | hy
    · exact cell_has hy
    · exact absurd rfl (S.nofree _ (PySem.mem_of_lookup hy))
  · exact Nat.le_of_lt (x.above y c (PySem.mem_of_lookup h))
  · have hi : i < vs.length := by
      unfold start at h2
      by_cases hi : i < vs.length
      · exact hi
      · rw [List.getElem?_append_right (by simpa using hi)] at h2
        rw [List.getElem?_replicate] at h2
        split at h2 <;> cases h2
    have ha : vs[i]? = some v := by
      unfold start at h2
      rw [List.getElem?_append_left (by simpa using hi), List.getElem?_map] at h2
      cases e : vs[i]? with
      | none => rw [e] at h2; cases h2
      | some a => rw [e] at h2; cases h2; rfl
    obtain ⟨u, hu, rv⟩ := r.get ha
    have hp : ps[i]? = some y := by
      rw [← S.pre, List.getElem?_take_of_lt (by omega)]; exact h1
    have ndP : ps.Nodup := by rw [← S.pre]; exact S.nd.sublist (List.take_sublist _ _)
    refine ⟨u, rv, ?_⟩
    rcases S.par y (List.mem_of_getElem? hp) with k | k
    · exact .inl ⟨k, bindL_get ndP hp hu k⟩
    · obtain ⟨c, e⟩ := cell_has (n := s.heap.objs.size + 1) k
      refine .inr ⟨.inl k, c, e, ?_⟩
      have q := x.cell y c e
      rw [bindC_get ndP hp hu (by show scope.names.lookup y ≠ _; rw [k]; decide)] at q
      exact q
  · exact e0.hok.fresh (Nat.le_of_lt (x.above y c (PySem.mem_of_lookup h)))
  · unfold start
    show _ = N.length
    rw [List.length_append, List.length_map, List.length_replicate]
    omega
theorem fn_of {CX : CXT} {P : Program} {w : World} {K : PySem.W.Frag} {mg : Str → Option Value} {base : Heap} {k : Nat} {f : Addr} {name qual : Str} {params : Arguments} {body : List Stmt} {scope : Scope} {dV kV doc pm cdv ct oc : Value} {an od : Option Addr}
    {osl : Array (Option Value)} {N ps : List Str} {sp : Sp} (lk : K.lookup f = some ⟨oc, od, .func (PySem.W.fnOf name qual params body scope dV kV doc pm an cdv ct), osl⟩) (hcd : PySem.W.codeIn K cdv qual = true) (S : FnScope N ps scope)
    (len : ∀ vs H Q E, sp vs H Q E → vs.length = ps.length)
    (hbody : ∀ (A : Around) (outer : List Env) (s : Shared) (H : Hp) (vs : List V) (Q : VK) (E : XK), Room k (A.deeper (envOfC qual scope s.heap.objs.size f cdv)) → sp vs H Q E →
      ∃ t, PSs (cxOf CX P w K mg base N qual scope f cdv A outer s H E) body t ∧ t { nx := fun _ H' => Q .non H', rt := Q } (start N vs) H) :
    FnOk P w K mg base CX (k + 1) f (PySem.W.fnOf name qual params body scope dV kV doc pm an cdv ct) ps sp := by
  refine ⟨len, fun A outer s H args us vs Q E hr e0 hb r hsp => ?_⟩
  have hl := len _ _ _ _ hsp
  have KX : K.In s.heap := e0.mod.kin.keeps fun b o e => (e0.bs b o e).1
  have lim : s.heap.NoLimit := e0.mod.nolimit.keeps fun b o e => (e0.bs b o e).1
  have hkind : ∀ y ∈ ps.zip us, scope.names.lookup y.1 = some .local ∨ (scope.names.lookup y.1 = some .cell ∧ ((cellsFrom (s.heap.objs.size + 1) scope.names []).lookup y.1).isSome = true) := fun ⟨n, v⟩ hy => by
    rcases S.par n (List.of_mem_zip hy).1 with q | q
    · exact .inl q
    · exact .inr ⟨q, PySem.W.cellsFrom_some _ _ _ (.inl q)⟩
  refine codeAny_call_function hr.depth (KX _ _ lk) rfl S.co S.gen rfl (PySem.W.codeRec_of KX hcd) (hb _ _ _ _ ?_)
  refine wpAny_newFunctionEnv_cells S.kind hkind fun env he s1 x => ?_
  subst he
  refine ⟨lim.keeps x.toInCall.keep, codeAny_func ?_⟩
  obtain ⟨t, ht, hq⟩ := hbody A outer s H vs Q E (hr.deeper _) hsp
  have I : Inv (cxOf CX P w K mg base N qual scope f cdv A outer s H E) [] (start N vs) H s1 := inv_start S hr.hd e0 hl r x
  refine wpAny_mono (ht [] s1 (start N vs) H _ I hq) (fun fl s' hs => ?_) fun e s' hs => hs
  have fin : ∀ {σ' : St} {H' : Hp} {v : V} {u : Value}, Inv (cxOf CX P w K mg base N qual scope f cdv A outer s H E) [] σ' H' s' → RelV v u → Q v H' → CE outer P w H s Q u s' :=
    fun {σ' H' v u} J rv q => ⟨v, H', J.os, J.bare, J.base, J.hok, rv, q⟩
  cases fl with
  | ret u =>
    obtain ⟨v, σ', H', J, rv, q⟩ := hs
    exact fin J rv q
  | next =>
    obtain ⟨σ', H', J, q⟩ := hs
    exact fin (v := V.non) (u := Value.none) J rfl q
  | brk =>
    obtain ⟨_, _, _, q⟩ := hs
    exact False.elim q
  | cont =>
    obtain ⟨_, _, _, q⟩ := hs
    exact False.elim q
end L2
namespace L2
open PySem PySem.Spec PyProof.Rows
section
variable {X : Cx} {x : Str} {p pos : Pos} {e : Expr} {es : List Expr} {t : TA} {id T : String} {r : List V → Hp → VK → Prop}
def tCB (r : List V → Hp → VK → Prop) (t : TA) : TE := fun σ H Q => t σ H fun vs H1 => r vs H1 Q
theorem pe_callB (hc : CallR X (.builtin id) r) (hg : Gl X x) (hm : X.mg x = none) (hv : bootBuiltins x = some (.builtin id)) (ha : PA X (e :: es) t) (hn : x ≠ "__name__" := by decide) (hdb : (x == ("__debug__" : Str)) = false := by decide)
    (he : starEach (e :: es) X.env = (false, eval e X.env) :: starEach es X.env := by rfl) (hpl : (backTo pos (starEach es X.env)).any (·.1) = false := by rfl) : PE X (.Call (.Name x p) (e :: es) [] pos) (tCB r t) := by
  intro pins s σ H Q I h
  refine wpAny_Call_Name_kw (ld_blt I hg hm hv ?_ hn hdb)
  exact PyProof.Rows.callWith_builtin1 (thn (ha pos pins s σ H _ I h) fun us s1 ⟨vs, H1, I1, r1, q1⟩ => hc pins s1 σ H1 vs us Q I1 r1 q1) he hpl
theorem pe_callTy (hc : CallR X (.type T) r) (hg : Gl X x) (hm : X.mg x = none) (hv : bootBuiltins x = some (.type T)) (ha : PA X (e :: es) t) (hn : x ≠ "__name__" := by decide) (hdb : (x == ("__debug__" : Str)) = false := by decide)
    (he : starEach (e :: es) X.env = (false, eval e X.env) :: starEach es X.env := by rfl) (hpl : (backTo pos (starEach es X.env)).any (·.1) = false := by rfl) : PE X (.Call (.Name x p) (e :: es) [] pos) (tCB r t) := by
  intro pins s σ H Q I h
  refine wpAny_Call_Name_kw (ld_blt I hg hm hv ?_ hn hdb)
  exact PyProof.Rows.callWith_type1 (thn (ha pos pins s σ H _ I h) fun us s1 ⟨vs, H1, I1, r1, q1⟩ => hc pins s1 σ H1 vs us Q I1 r1 q1) he hpl
end
end L2
namespace HT
open PySem PyProof.Rows
section
open PySem.SeqAt
open PySem.AutoSeq1 (wpAny_loadPart')
open PySem.MeetsSeq PySem.MeetsSeq2 PySem.MeetsSeq3
end
section
variable {prog : Program} {w : World} {A : Around} {E : Value → Shared → Prop} {s : Shared}
def sIx (n d : Nat) : Option Int → Nat
  | none => d
  | some v => if v < 0 then (v + (n : Int)).toNat else min v.toNat n
theorem sIx_none (n d : Nat) : sIx n d none = d := rfl
theorem sIx_nat (n d k : Nat) : sIx n d (some (k : Int)) = min k n := by
  show (if (k : Int) < 0 then ((k : Int) + (n : Int)).toNat else min (k : Int).toNat n) = min k n
  rw [if_neg (by omega), Int.toNat_natCast]
end
end HT
namespace L2
open PySem PySem.Spec PyProof.Rows
abbrev TO := St → Hp → (Option Int → Hp → Prop) → Prop
def PO (X : Cx) (e : Option Expr) (t : TO) : Prop :=
  ∀ (pins : List (Addr × Obj)) (s : Shared) (σ : St) (H : Hp) (Q : Option Int → Hp → Prop), Inv X pins σ H s → t σ H Q →
    wpAny (model X.prog X.w) X.A (evalPart e X.env) (fun u s' => ∃ o H', Inv X pins σ H' s' ∧ IsPart u o ∧ Q o H') X.xe s
def tNoPart : TO := fun _ H Q => Q none H
def tPart (t : TE) : TO := fun σ H Q => t σ H fun x H1 => ∃ i, x = .int i ∧ Q (some i) H1
theorem intsAre_of {ns : List Int} : ∀ {us : List Value}, Vals (ns.map V.int) us → IntsAre us ns := by
  induction ns with
  | nil => intro us r; rw [List.map_nil] at r; cases r; exact .nil
  | cons n ns ih =>
    intro us r
    rw [List.map_cons] at r
    cases r with
    | cons r1 r2 =>
      obtain ⟨t, e⟩ := r1
      subst e
      exact .cons n t (ih r2)
section
variable {X : Cx} {e : Expr} {te : TE} {lo hi : Option Expr} {tl th : TO} {pos p2 : Pos}
theorem po_none : PO X none tNoPart := by
  intro pins s σ H Q I h
  rw [evalPart_none]
  exact wpAny_pure ⟨none, H, I, .none, h⟩
theorem po_some (h : PE X e te) : PO X (some e) (tPart te) := by
  intro pins s σ H Q I hw
  rw [evalPart_some]
  refine thn (h pins s σ H _ I hw) fun u s1 ⟨x, H1, I1, r1, q1⟩ => ?_
  obtain ⟨i, rfl, q⟩ := q1
  obtain ⟨t, rfl⟩ := r1
  exact ⟨some i, H1, I1, .int i t, q⟩
def SlR (X : Cx) (r : V → Option Int → Option Int → Hp → VK → Prop) : Prop :=
  ∀ (pins : List (Addr × Obj)) (s : Shared) (σ : St) (H : Hp) (x : V) (v vl vu : Value) (lo hi : Option Int) (sl : Addr) (Q : VK), Inv X pins σ H s → RelV x v → s.heap.IsSliceOf sl vl vu .none → IsPart vl lo → IsPart vu hi → r x lo hi H Q →
    ∃ T id, typeLookup (.type T) "__getitem__" = pure (some (.builtin id)) ∧ s.TypeIs v T ∧ wpAny (model X.prog X.w) X.A (getItem v (.ref sl)) (EP X pins σ Q) X.xe s
theorem SlR.or {r r' : V → Option Int → Option Int → Hp → VK → Prop} (h : SlR X r) (h' : SlR X r') : SlR X (fun x lo hi H Q => r x lo hi H Q ∨ r' x lo hi H Q) := by
  intro pins s σ H x v vl vu lo hi sl Q I rx hs pl pu q
  rcases q with q | q
  · exact h pins s σ H x v vl vu lo hi sl Q I rx hs pl pu q
  · exact h' pins s σ H x v vl vu lo hi sl Q I rx hs pl pu q
def tSl (r : V → Option Int → Option Int → Hp → VK → Prop) (te : TE) (tl th : TO) : TE := fun σ H Q => te σ H fun x H1 => tl σ H1 fun l H2 => th σ H2 fun u H3 => r x l u H3 Q
theorem pe_slice {r : V → Option Int → Option Int → Hp → VK → Prop} (hr : SlR X r) (he : PE X e te) (hl : PO X lo tl) (hu : PO X hi th) : PE X (.Subscript e (.Slice lo hi none p2) pos) (tSl r te tl th) := by
  intro pins s σ H Q I h
  refine Subscript_ (thn (he pins s σ H _ I h) fun v s1 ⟨x, H1, I1, r1, q1⟩ => ?_)
  refine wpAny_Slice (thn (hl pins s1 σ H1 _ I1 q1) fun vl s2 ⟨l, H2, I2, pl, q2⟩ => thn (hu pins s2 σ H2 _ I2 q2) fun vu s3 ⟨u, H3, I3, pu, q3⟩ => ?_)
  rw [evalPart_none]
  refine wpAny_pure ?_
  have I4 : Inv X pins σ H3 { s3 with heap := s3.heap.push { cls := .type "slice", data := .fields #[vl, vu, .none] } } := I3.kept (t' := s3.toks) fun b ob q => Heap.get?_push_of_some _ q
  obtain ⟨T, id, hT, ht, hg⟩ := hr pins { s3 with heap := s3.heap.push { cls := .type "slice", data := .fields #[vl, vu, .none] } } σ H3 x v vl vu l u s3.heap.objs.size Q I4 r1 (Heap.IsSliceOf.new ..) pl pu q3
  show wpAny (model X.prog X.w) X.A (subscriptTail e (.Slice lo hi none p2) v (.ref s3.heap.objs.size)) (EP X pins σ Q) X.xe { s3 with heap := s3.heap.push { cls := .type "slice", data := .fields #[vl, vu, .none] } }
  exact tail_any (ops := [.ref s3.heap.objs.size, v]) ht hT hg (by with_unfolding_all rfl)
def cutV (xs : List V) (lo hi : Option Int) : List V := (xs.drop (HT.sIx xs.length 0 lo)).take (HT.sIx xs.length xs.length hi - HT.sIx xs.length 0 lo)
theorem cutV_length (xs : List V) (lo hi : Option Int) : (cutV xs lo hi).length ≤ xs.length := by
  unfold cutV
  rw [List.length_take, List.length_drop]
  omega
end
end L2
namespace L2
open PySem PySem.Spec PyProof.Rows
def ixN (n : Nat) (i : Int) : Option Nat := if 0 ≤ i then (if i < n then some i.toNat else none) else if -(n : Int) ≤ i then some (i + n).toNat else none
def atI {α : Type} (xs : List α) (i : Int) : Option α := (ixN xs.length i).bind fun j => xs[j]?
theorem ixN_seq {n : Nat} {i : Int} {j : Nat} (h : ixN n i = some j) : seqIndex? i n = some j ∧ j < n ∧ -(n : Int) ≤ i ∧ i < n := by
  unfold ixN at h
  by_cases h0 : 0 ≤ i
  · rw [if_pos h0] at h
    by_cases h1 : i < n
    · rw [if_pos h1] at h
      have e : i.toNat = j := Option.some.inj h
      exact ⟨by rw [seqIndex_of h0 h1, e], by omega, by omega, h1⟩
    · rw [if_neg h1] at h; cases h
  · rw [if_neg h0] at h
    by_cases h1 : -(n : Int) ≤ i
    · rw [if_pos h1] at h
      have e : (i + n).toNat = j := Option.some.inj h
      exact ⟨by rw [seqIndex_neg (by omega) h1, e], by omega, h1, by omega⟩
    · rw [if_neg h1] at h; cases h
theorem atI_get {α : Type} {xs : List α} {i : Int} {v : α} (h : atI xs i = some v) : ∃ j, seqIndex? i xs.length = some j ∧ xs[j]? = some v ∧ j < xs.length ∧ -(xs.length : Int) ≤ i ∧ i < xs.length := by
  unfold atI at h
  cases e : ixN xs.length i with
  | none => rw [e] at h; cases h
  | some j =>
    rw [e] at h
    obtain ⟨h1, h2, h3, h4⟩ := ixN_seq e
    exact ⟨j, h1, h, h2, h3, h4⟩
theorem atI_nat {α : Type} {xs : List α} {j : Nat} {v : α} (h : xs[j]? = some v) : atI xs (j : Int) = some v := by
  have hj : j < xs.length := (List.getElem?_eq_some_iff.mp h).1
  have e : ixN xs.length (j : Int) = some j := by
    unfold ixN
    rw [if_pos (by omega), if_pos (by omega)]; simp
  unfold atI; rw [e]; exact h
theorem atI_last {α : Type} (xs : List α) (v : α) : atI (xs ++ [v]) (-1) = some v := by
  have hl : (xs ++ [v]).length = xs.length + 1 := by simp
  have e : ixN (xs ++ [v]).length (-1) = some xs.length := by
    unfold ixN
    rw [hl, if_neg (by decide), if_pos (by omega)]
    congr 1
    omega
  unfold atI
  rw [e]
  show (xs ++ [v])[xs.length]? = some v
  simp
def PlainIx (b : Expr) : Prop := ∀ o i, subscripted b false o i = operate [o, i] (getItem o i)
def IxR (X : Cx) (r : R2) : Prop :=
  ∀ (value slice : Expr) (pins : List (Addr × Obj)) (s : Shared) (σ : St) (H : Hp) (x y : V) (v u : Value) (Q : VK), Inv X pins σ H s → RelV x v → RelV y u → r x y H Q →
    subscripted slice false v u = operate [v, u] (getItem v u) → wpAny (model X.prog X.w) X.A (subscriptTail value slice v u) (EP X pins σ Q) X.xe s
def MtR (X : Cx) (id : String) (r : V → List V → Hp → VK → Prop) : Prop :=
  ∀ (pins : List (Addr × Obj)) (s : Shared) (σ : St) (H : Hp) (x : V) (xs : List V) (v : Value) (us : List Value) (Q : VK), Inv X pins σ H s → RelV x v → Vals xs us → r x xs H Q →
    wpAny (model X.prog X.w) X.A (call (.builtin id) (v :: us)) (EP X pins σ Q) X.xe s
section
variable {X : Cx} {a b : Expr} {ta tb : TE} {pos : Pos}
theorem IxR.or {r r' : R2} (h : IxR X r) (h' : IxR X r') : IxR X (fun x y H Q => r x y H Q ∨ r' x y H Q) := by
  intro value slice pins s σ H x y v u Q I rx ry q hs
  rcases q with q | q
  · exact h value slice pins s σ H x y v u Q I rx ry q hs
  · exact h' value slice pins s σ H x y v u Q I rx ry q hs
theorem MtR.or {id : String} {r r' : V → List V → Hp → VK → Prop} (h : MtR X id r) (h' : MtR X id r') : MtR X id (fun x xs H Q => r x xs H Q ∨ r' x xs H Q) := by
  intro pins s σ H x xs v us Q I rx rs q
  rcases q with q | q
  · exact h pins s σ H x xs v us Q I rx rs q
  · exact h' pins s σ H x xs v us Q I rx rs q
theorem pe_ix {r : R2} (hr : IxR X r) (ha : PE X a ta) (hb : PE X b tb) (hs : PlainIx b) : PE X (.Subscript a b pos) (tOp r ta tb) := by
  intro pins s σ H Q I h
  exact Subscript_ (binT ha hb I h fun v u s2 x y H2 I2 rx ry q => hr a b pins s2 σ H2 x y v u Q I2 rx ry q (hs _ _))
def rIxL (K : PySem.W.Frag) : R2 := fun x y H Q => ∃ p xs i v, x = .ref p ∧ y = .int i ∧ SqL K H p xs ∧ atI xs i = some v ∧ Q v H
def rIxT (K : PySem.W.Frag) : R2 := fun x y H Q => ∃ p xs i v, x = .ref p ∧ y = .int i ∧ SqT K H p xs ∧ atI xs i = some v ∧ Q v H
theorem ix_list : IxR X (rIxL X.K) := by
  intro value slice pins s σ H x y v u Q I rx ry h hs
  obtain ⟨p, xs, i, z, rfl, rfl, hq, he, q⟩ := h
  cases rx
  obtain ⟨t, rfl⟩ := ry
  obtain ⟨its, r, pl, hz⟩ := I.list hq
  obtain ⟨j, h1, h2, h3, h4, h5⟩ := atI_get he
  obtain ⟨w, ew, rw'⟩ := r.get h2
  have hl := r.length
  have hn := line63
  have fin : EP X pins σ Q w s := ⟨z, H, I, rw', q⟩
  by_cases h0 : 0 ≤ i
  · have hj : i.toNat = j := by
      rw [seqIndex_of h0 h5] at h1
      exact Option.some.inj h1
    exact item_listR pl.isList h0 (by omega) (by rw [hj]; simpa using ew) fin hs
  · have hj : (i + (its.toArray.size : Int)).toNat = j := by
      rw [seqIndex_neg (by omega) h4] at h1
      rw [List.size_toArray, ← hl]
      exact Option.some.inj h1
    exact subscriptTail_builtinR (x := w) pl.isList.typeIs slot_list_getitem.lookup
      (wpAny_getItem_list_neg (Q := fun r s' => r = w ∧ EP X pins σ Q r s') pl.isList (by omega) (by rw [List.size_toArray] <;> omega) (by omega) (by rw [hj]; simpa using ew) ⟨rfl, fin⟩) hs
theorem ix_tup : IxR X (rIxT X.K) := by
  intro value slice pins s σ H x y v u Q I rx ry h hs
  obtain ⟨p, xs, i, z, rfl, rfl, hq, he, q⟩ := h
  cases rx
  obtain ⟨t, rfl⟩ := ry
  obtain ⟨its, r, pl, hz⟩ := I.tuple hq
  obtain ⟨j, h1, h2, h3, h4, h5⟩ := atI_get he
  obtain ⟨w, ew, rw'⟩ := r.get h2
  have hl := r.length
  have hn := line63
  have fin : EP X pins σ Q w s := ⟨z, H, I, rw', q⟩
  exact subscriptTail_builtinR (x := w) pl.typeIs slot_tuple_getitem.lookup
    (getItem_tuple (j := j) (Q := fun r s' => r = w ∧ EP X pins σ Q r s') pl (by omega) (by omega) (by rw [List.size_toArray, ← hl]; exact h1) (by simpa using ew) ⟨rfl, fin⟩) hs
theorem mapSeq_set (its : List Value) (n j : Nat) (u : Value) : Obj.mapSeq (·.setIfInBounds j u) { cls := .type "list", data := .seq its.toArray n } = { cls := .type "list", data := .seq (its.set j u).toArray n } := by
  simp [Obj.mapSeq]
theorem Inv.lst {pins : List (Addr × Obj)} {σ : St} {H : Hp} {s : Shared} {p : Addr} {xs : List V} (I : Inv X pins σ H s) (h : H p = some (.lst xs)) :
    ∃ (its : List Value) (n : Nat), Vals xs its ∧ s.heap.get? p = some { cls := .type "list", data := .seq its.toArray n } ∧ xs.length ≤ sizeLine := by
  obtain ⟨z, its, n, r, e⟩ := I.hok p _ h
  exact ⟨its, n, r, e, z⟩
theorem Inv.lstUpd {pins : List (Addr × Obj)} {σ : St} {H : Hp} {s : Shared} {p : Addr} {xs ys : List V} {its its' : List Value} {n n' : Nat} {f : Obj → Obj} (I : Inv X pins σ H s) (h : H p = some (.lst xs))
    (ho : s.heap.get? p = some { cls := .type "list", data := .seq its.toArray n }) (hf : f { cls := .type "list", data := .seq its.toArray n } = { cls := .type "list", data := .seq its'.toArray n' }) (r : Vals ys its') (hz : ys.length ≤ sizeLine) (t : Nat) :
    Inv X pins σ (upd H p (.lst ys)) { s with heap := s.heap.update p f, toks := t } := by
  have e : (s.heap.update p f).get? p = some { cls := .type "list", data := .seq its'.toArray n' } := by
    rw [Heap.get?_update_self f ho (by rw [hf] <;> rfl), hf]
  refine I.write (x := p) (e := p) (by rw [h]; trivial) (.inl rfl) (fun b u hb q => (Heap.get?_update_other _ _ (Ne.symm hb)).trans q) ⟨_, e⟩ ?_
  exact ⟨hz, its', n', r, e⟩
def rSetL : V → V → V → Hp → (Hp → Prop) → Prop := fun o i v H Q => ∃ p xs k j, o = .ref p ∧ i = .int k ∧ H p = some (.lst xs) ∧ ixN xs.length k = some j ∧ Q (upd H p (.lst (xs.set j v)))
theorem set_list : PSet X rSetL := by
  intro pins s σ H o i v ov iv u Q I ro ri rv h
  obtain ⟨p, xs, k, j, rfl, rfl, hp, hj, q⟩ := h
  cases ro
  obtain ⟨t, rfl⟩ := ri
  obtain ⟨its, n, r, ho, hz⟩ := I.lst hp
  obtain ⟨h1, h2, h3, h4⟩ := ixN_seq hj
  have hl := r.length
  have hn := line63
  have I' : Inv X pins σ (upd H p (.lst (xs.set j v))) { s with heap := s.heap.update p (Obj.mapSeq (·.setIfInBounds j u)) } :=
    I.lstUpd hp ho (mapSeq_set its n j u) (r.set rv j) (by rw [List.length_set]; exact hz) s.toks
  by_cases h0 : 0 ≤ k
  · have hk : k.toNat = j := by
      rw [seqIndex_of h0 h4] at h1
      exact Option.some.inj h1
    exact PySem.W.ki_setAt ho h0 (by omega) (by rw [List.size_toArray, ← hl]; exact h4) (by rw [hk]; exact ⟨_, I', q⟩)
  · have hk : (k + (its.toArray.size : Int)).toNat = j := by
      rw [seqIndex_neg (by omega) h3] at h1
      rw [List.size_toArray, ← hl]
      exact Option.some.inj h1
    exact PySem.W.ki_setBack ho (by omega) (by rw [List.size_toArray, ← hl]; exact h3) (by omega) (by rw [hk]; exact ⟨_, I', q⟩)
theorem slice_bounds (lo hi : Option Int) (n : Nat) : (sliceBounds lo hi none n).1 = ((HT.sIx n 0 lo : Nat) : Int) ∧ (sliceBounds lo hi none n).2.1 = ((HT.sIx n n hi : Nat) : Int) ∧ (sliceBounds lo hi none n).2.2 = 1 := by
  refine ⟨?_, ?_, rfl⟩
  · cases lo with
    | none => simp [sliceBounds, HT.sIx]
    | some i =>
      simp only [sliceBounds, HT.sIx, Option.getD_none, show (1 : Int) > 0 by decide, if_true]
      by_cases h : i < 0
      · simp only [h, if_true] <;> omega
      · simp only [h, if_false] <;> omega
  · cases hi with
    | none => simp [sliceBounds, HT.sIx]
    | some i =>
      simp only [sliceBounds, HT.sIx, Option.getD_none, show (1 : Int) > 0 by decide, if_true]
      by_cases h : i < 0
      · simp only [h, if_true] <;> omega
      · simp only [h, if_false] <;> omega
theorem slicePick_cut (its : List Value) (lo hi : Option Int) : slicePick its.toArray lo hi none = ((its.drop (HT.sIx its.length 0 lo)).take (HT.sIx its.length its.length hi - HT.sIx its.length 0 lo)).toArray := by
  obtain ⟨h1, h2, h3⟩ := slice_bounds lo hi its.toArray.size
  unfold slicePick
  rw [h1, h2, h3]
  simp only [sliceRange_one, pick_run, List.size_toArray] <;> rfl
def rSlL (K : PySem.W.Frag) : V → Option Int → Option Int → Hp → VK → Prop := fun x lo hi H Q => ∃ a xs, x = .ref a ∧ SqL K H a xs ∧ ∀ p, H p = none → Q (.ref p) (upd H p (.lst (cutV xs lo hi)))
theorem sl_list : SlR X (rSlL X.K) := by
  intro pins s σ H x v vl vu lo hi sl Q I rx hs pl pu h
  obtain ⟨a, xs, rfl, hx, q⟩ := h
  cases rx
  obtain ⟨its, r, ht, hz⟩ := I.list hx
  have hlen := r.length
  refine ⟨"list", _, slot_list_getitem.lookup, ht.isList.typeIs, ?_⟩
  refine wpAny_getItem_list_slice ht.isList hs pl pu .none (by simp) ?_ (by rw [List.size_toArray] <;> omega)
  rw [slicePick_cut, ← hlen]
  refine ⟨.ref s.heap.objs.size, _, I.laid (t' := s.toks) (o := .lst (cutV xs lo hi)) (fun b ob q => Heap.get?_push_of_some _ q) (Nat.le_refl _) ?_, rfl, q _ (I.hok.fresh (Nat.le_refl _))⟩
  exact ⟨Nat.le_trans (cutV_length xs lo hi) hz, _, 0, (r.drop (HT.sIx xs.length 0 lo)).take (HT.sIx xs.length xs.length hi - HT.sIx xs.length 0 lo), Heap.get?_push_size _ rfl⟩
def flatV : V → Bool
  | .non => true
  | .bl _ => true
  | .int _ => true
  | .str _ => true
  | _ => false
def eqV : V → V → Bool
  | .non, .non => true
  | .bl a, .bl b => a == b
  | .bl a, .int b => (if a then 1 else 0) == b
  | .int a, .bl b => a == (if b then 1 else 0)
  | .int a, .int b => a == b
  | .str a, .str b => a == b
  | _, _ => false
theorem eqAt_V {A : Around} {s : Shared} {y x : V} {u v : Value} (ry : RelV y u) (rx : RelV x v) (fy : flatV y = true) (fx : flatV x = true) : SeqAt.EqAt A s u v (eqV y x) := by
  cases y with
  | non =>
    cases ry
    cases x with
    | non => cases rx; exact SeqAt.EqAt.same _
    | bl b => cases rx; exact SeqAt.EqAt.none_bool b
    | int b => obtain ⟨t, rfl⟩ := rx; exact SeqAt.EqAt.none_int b t
    | str b => obtain ⟨t, rfl⟩ := rx; exact SeqAt.EqAt.none_str b t
    | _ => exact absurd (show false = true from fx) Bool.false_ne_true
  | bl a =>
    cases ry
    cases x with
    | non => cases rx; exact SeqAt.EqAt.bool_none a
    | bl b => cases rx; exact SeqAt.EqAt.bool_bool a b
    | int b => obtain ⟨t, rfl⟩ := rx; exact SeqAt.EqAt.bool_int a b t
    | str b => obtain ⟨t, rfl⟩ := rx; exact SeqAt.EqAt.bool_str a b t
    | _ => exact absurd (show false = true from fx) Bool.false_ne_true
  | int a =>
    obtain ⟨t', rfl⟩ := ry
    cases x with
    | non => cases rx; exact SeqAt.EqAt.int_none a t'
    | bl b => cases rx; exact SeqAt.EqAt.int_bool a t' b
    | int b => obtain ⟨t, rfl⟩ := rx; exact SeqAt.EqAt.int_int a t' b t
    | str b => obtain ⟨t, rfl⟩ := rx; exact SeqAt.EqAt.int_str a t' b t
    | _ => exact absurd (show false = true from fx) Bool.false_ne_true
  | str a =>
    obtain ⟨t', rfl⟩ := ry
    cases x with
    | non => cases rx; exact SeqAt.EqAt.str_none a t'
    | bl b => cases rx; exact SeqAt.EqAt.str_bool a t' b
    | int b => obtain ⟨t, rfl⟩ := rx; exact SeqAt.EqAt.str_int a t' b t
    | str b => obtain ⟨t, rfl⟩ := rx; exact SeqAt.EqAt.str_str a t' b t
    | _ => exact absurd (show false = true from fx) Bool.false_ne_true
  | _ => exact absurd (show false = true from fy) Bool.false_ne_true
def eqU (x : V) (u : Value) : Bool := match u with
  | .none => eqV .non x
  | .bool b => eqV (.bl b) x
  | .int i _ => eqV (.int i) x
  | .str z _ => eqV (.str z) x
  | _ => false
theorem eqU_of {x y : V} {u : Value} (r : RelV y u) (f : flatV y = true) : eqU x u = eqV y x := by
  cases y with
  | non => cases r; rfl
  | bl b => cases r; rfl
  | int i => obtain ⟨t, rfl⟩ := r; rfl
  | str z => obtain ⟨t, rfl⟩ := r; rfl
  | _ => exact absurd (show false = true from f) Bool.false_ne_true
theorem any_eqU {x : V} : ∀ {xs : List V} {us : List Value}, Vals xs us → xs.all flatV = true → us.any (eqU x) = xs.any fun y => eqV y x
  | _, _, .nil, _ => rfl
  | y :: xs, u :: us, .cons r t, f => by
    rw [List.all_cons, Bool.and_eq_true] at f
    rw [List.any_cons, List.any_cons, eqU_of r f.1, any_eqU t f.2]
theorem mem_eqAt {A : Around} {s : Shared} {x : V} {v : Value} (rx : RelV x v) (fx : flatV x = true) : ∀ {xs : List V} {us : List Value}, Vals xs us → xs.all flatV = true → ∀ u ∈ us, SeqAt.EqAt A s u v (eqU x u)
  | _, _, .nil, _ => fun u hu => by cases hu
  | y :: xs, u :: us, .cons r t, f => fun u' hu => by
    rw [List.all_cons, Bool.and_eq_true] at f
    rcases List.mem_cons.mp hu with rfl | hu
    · rw [eqU_of r f.1]; exact eqAt_V r rx f.1 fx
    · exact mem_eqAt rx fx t f.2 u' hu
def inV (x : V) (xs : List V) : Bool := xs.any fun y => eqV y x
def rIn (K : PySem.W.Frag) (neg : Bool) : R2 := fun x y H Q => ∃ p xs, y = .ref p ∧ (SqL K H p xs ∨ SqT K H p xs) ∧ flatV x = true ∧ xs.all flatV = true ∧ Q (.bl (if neg then !inV x xs else inV x xs)) H
theorem op_in_seq : OpR X (compareOp .In) (rIn X.K false) := by
  intro pins s σ H x y v u Q I rx ry h
  obtain ⟨p, xs, rfl, hq, fx, fs, q⟩ := h
  cases ry
  rcases hq with hq | hq
  · obtain ⟨its, r, pl, hz⟩ := I.list hq
    refine SeqAt.in_listAt (eqU x) pl.isList (fun w hw => mem_eqAt rx fx r fs w (by simpa using hw)) ⟨.bl _, H, I, rfl, ?_⟩
    rw [show its.toArray.any (eqU x) = its.any (eqU x) by simp, any_eqU r fs]
    exact q
  · obtain ⟨its, r, pl, hz⟩ := I.tuple hq
    refine SeqAt.in_tupleAt (eqU x) pl (fun w hw => mem_eqAt rx fx r fs w (by simpa using hw)) ⟨.bl _, H, I, rfl, ?_⟩
    rw [show its.toArray.any (eqU x) = its.any (eqU x) by simp, any_eqU r fs]
    exact q
theorem call_len_seq : CallR X (.builtin "len") (fun xs H Q => ∃ p ys, xs = [.ref p] ∧ (SqL X.K H p ys ∨ SqT X.K H p ys) ∧ Q (.int ys.length) H) := by
  intro pins s σ H xs us Q I r h
  obtain ⟨p, ys, rfl, hq, q⟩ := h
  obtain ⟨u, rfl, rx⟩ := vals1 r
  cases rx
  have hn := line63
  rcases hq with hq | hq
  · obtain ⟨its, r', pl, hz⟩ := I.list hq
    have hlen := r'.length
    exact Calls.call_len_list pl.isList (by simp only [List.size_toArray] <;> omega) ⟨.int ys.length, H, I.tok _, ⟨s.toks + 1, by rw [List.size_toArray, hlen]⟩, q⟩
  · obtain ⟨its, r', pl, hz⟩ := I.tuple hq
    have hlen := r'.length
    exact len_tuple pl (by simp only [List.size_toArray] <;> omega) ⟨.int ys.length, H, I.tok _, ⟨s.toks + 1, by rw [List.size_toArray, hlen]⟩, q⟩
theorem CallR.or {f : Value} {r r' : List V → Hp → VK → Prop} (h : CallR X f r) (h' : CallR X f r') : CallR X f (fun xs H Q => r xs H Q ∨ r' xs H Q) := by
  intro pins s σ H xs us Q I rs q
  rcases q with q | q
  · exact h pins s σ H xs us Q I rs q
  · exact h' pins s σ H xs us Q I rs q
theorem call_list_of : CallR X (.type "list") (fun xs H Q => ∃ p ys, xs = [.ref p] ∧ (SqL X.K H p ys ∨ SqT X.K H p ys) ∧ ∀ l, H l = none → Q (.ref l) (upd H l (.lst ys))) := by
  intro pins s σ H xs us Q I r h
  obtain ⟨p, ys, rfl, hq, q⟩ := h
  obtain ⟨u, rfl, rx⟩ := vals1 r
  cases rx
  have fin : ∀ (its : List Value), Vals ys its → ys.length ≤ sizeLine → ∀ (h' : Heap) (c' : Nat), (∀ b o', s.heap.get? b = some o' → h'.get? b = some o') →
      h'.get? s.heap.objs.size = some { cls := .type "list", dict := none, data := .seq its.toArray c', slots := #[] } → EP X pins σ Q (.ref s.heap.objs.size) { s with heap := h' } := fun its r' hz h' c' kp e =>
    ⟨.ref s.heap.objs.size, _, I.laid (t' := s.toks) kp (Nat.le_refl _) (show ObjOk X.prog X.w _ h' _ (.lst ys) from ⟨hz, its, c', r', e⟩), rfl, q _ (I.hok.fresh (Nat.le_refl _))⟩
  rcases hq with hq | hq
  · obtain ⟨its, r', pl, hz⟩ := I.list hq
    have hlen := r'.length
    obtain ⟨o, ho, hc, n, hd⟩ := pl.isList
    exact call_list_seq p (.inl rfl) ho hc hd (fun h' c' kp e => fin its r' hz h' c' kp e) (by simp only [List.size_toArray] <;> omega)
  · obtain ⟨its, r', pl, hz⟩ := I.tuple hq
    have hlen := r'.length
    obtain ⟨o, ho, hc, n, hd⟩ := pl
    exact call_list_seq p (.inr rfl) ho hc hd (fun h' c' kp e => fin its r' hz h' c' kp e) (by simp only [List.size_toArray] <;> omega)
theorem call_tuple_of : CallR X (.type "tuple") (fun xs H Q => ∃ p ys, xs = [.ref p] ∧ ((SqL X.K H p ys ∧ ∀ l, H l = none → Q (.ref l) (upd H l (.tup ys))) ∨ (SqT X.K H p ys ∧ Q (.ref p) H))) := by
  intro pins s σ H xs us Q I r h
  obtain ⟨p, ys, rfl, h⟩ := h
  obtain ⟨u, rfl, rx⟩ := vals1 r
  cases rx
  rcases h with ⟨hq, q⟩ | ⟨hq, q⟩
  · obtain ⟨its, r', pl, hz⟩ := I.list hq
    have hlen := r'.length
    refine call_tuple_list pl.isList (fun h' kp => ?_) (by simp only [List.size_toArray] <;> omega)
    have I1 : Inv X pins σ H { s with heap := h' } := I.kept (t' := s.toks) kp
    have I2 : Inv X pins σ (upd H h'.objs.size (.tup ys)) { s with heap := h'.push { cls := .type "tuple", data := .seq its.toArray } } :=
      I1.laid (t' := s.toks) (fun b o e => Heap.get?_push_of_some _ e) (Nat.le_refl _) (show ObjOk X.prog X.w _ _ _ (.tup ys) from ⟨hz, its, r', IsTup.new _ _⟩)
    exact ⟨.ref h'.objs.size, _, I2, rfl, q _ (I1.hok.fresh (Nat.le_refl _))⟩
  · obtain ⟨its, r', pl, hz⟩ := I.tuple hq
    exact call_tuple_same pl ⟨.ref p, H, I, rfl, q⟩
def tyV (K : PySem.W.Frag) (T : String) (x : V) (H : Hp) : Prop := match x with
  | .str _ => T = "str"
  | .int _ => T = "int"
  | .ref p => (T = "list" ∧ ∃ xs, SqL K H p xs) ∨ (T = "tuple" ∧ ∃ o, K.lookup p = some o ∧ o.cls = .type "tuple" ∧ o.dict = none) ∨
      (T = "dict" ∧ ((∃ kvs, H p = some (.dK kvs)) ∨ ∃ kvs, H p = some (.dT kvs))) ∨ (T = "set" ∧ ∃ S n, H p = some (.set S n))
  | _ => False
theorem tyV_is {pins : List (Addr × Obj)} {σ : St} {H : Hp} {s : Shared} {T : String} {x : V} {v : Value} (I : Inv X pins σ H s) (r : RelV x v) (ty : tyV X.K T x H) :
    s.TypeIs v T ∧ ∀ a, v = .ref a → ∃ ob, s.heap.get? a = some ob ∧ ob.dict = none := by
  cases x with
  | str z =>
    obtain ⟨t, rfl⟩ := r
    cases (show T = "str" from ty)
    exact ⟨typeIs_str s z t, fun _ e => nomatch e⟩
  | int i =>
    obtain ⟨t, rfl⟩ := r
    cases (show T = "int" from ty)
    exact ⟨typeIs_int s i t, fun _ e => nomatch e⟩
  | ref p =>
    cases r
    rcases ty with ⟨rfl, xs, hq⟩ | ⟨rfl, o, hk, hc, hd⟩ | ⟨rfl, hk⟩ | ⟨rfl, S, n, hk⟩
    · obtain ⟨its, _, pl, _⟩ := I.list hq
      refine ⟨pl.isList.typeIs, fun a e => ?_⟩
      cases e
      obtain ⟨o, n, e, c, hd, _⟩ := pl
      exact ⟨o, e, hd⟩
    · refine ⟨⟨o, I.kIn p o hk, hc⟩, fun a e => ?_⟩
      cases e
      exact ⟨o, I.kIn _ o hk, hd⟩
    · have z : ∃ o, s.heap.get? p = some o ∧ o.ExactDict := by
        rcases hk with ⟨kvs, hk⟩ | ⟨kvs, hk⟩
        · obtain ⟨_, _, _, _, o, _, _, e, ex, _⟩ := I.hok p _ hk
          exact ⟨o, e, ex⟩
        · obtain ⟨_, _, _, _, o, _, _, e, ex, _⟩ := I.hok p _ hk
          exact ⟨o, e, ex⟩
      obtain ⟨o, e, ex⟩ := z
      refine ⟨⟨o, e, ex.1⟩, fun a e2 => ?_⟩
      cases e2
      exact ⟨o, e, ex.2.1⟩
    · obtain ⟨o, _, _, _, e, ex, _⟩ := I.hok p _ hk
      refine ⟨⟨o, e, ex.1⟩, fun a e2 => ?_⟩
      cases e2
      exact ⟨o, e, ex.2.1⟩
  | _ => exact False.elim ty
def tBM (K : PySem.W.Frag) (T : String) (r : V → List V → Hp → VK → Prop) (to : TE) (t : TA) : TE := fun σ H Q => to σ H fun x H1 => tyV K T x H1 ∧ t σ H1 fun xs H2 => r x xs H2 Q
variable {o e : Expr} {es : List Expr} {to : TE} {t : TA} {name : Str} {apos cpos : Pos} {T id : String} {r : V → List V → Hp → VK → Prop}
theorem pe_bm (pa : PlainAttrs T) (slot : Slot T name id) (hty : typeOf (.builtin id) = pure (.type "method_descriptor")) (hm : MtR X id r) (ho : PE X o to) (ha : PA X (e :: es) t)
    (hbase : attributeBase o name X.env (eval o X.env) = eval o X.env := by rfl)
    (hfew : ((backTo cpos (starEach (e :: es) X.env)).all (fun x => !x.1) && (backToKw cpos (keywordEach [] X.env)).all (fun x => x.1.isSome)
      && decide ((e :: es).length + ([] : List Keyword).length + (if ([] : List Keyword).isEmpty then 0 else 1) < 30)) = true := by rfl)
    (hline : (apos.endLine == cpos.line) = true := by rfl) (hs : starEach (e :: es) X.env = (false, eval e X.env) :: starEach es X.env := by rfl) (hplain : (backTo cpos (starEach es X.env)).any (·.1) = false := by rfl) :
    PE X (.Call (.Attribute o name apos) (e :: es) [] cpos) (tBM X.K T r to t) := by
  intro pins s σ H Q I h
  refine wpAny_Call_method_late hbase hfew hline rfl (thn (ho pins s σ H _ I h) fun v s1 ⟨x, H1, I1, r1, ty, q1⟩ => ?_)
  obtain ⟨h1, h2⟩ := tyV_is I1 r1 ty
  refine ⟨T, id, pa, slot, hty, h1, h2, ?_⟩
  have hA := ha cpos pins s1 σ H1 _ I1 q1
  rw [hs] at hA ⊢
  refine Calls.callWith_builtin (by show (false || (backTo cpos (starEach es X.env)).any (·.1)) = false; rw [hplain] <;> rfl) (Calls.evalArgs_plain ?_)
  exact thn hA fun us s2 ⟨vs, H2, I2, r2, q2⟩ => hm pins s2 σ H2 x vs v us Q I2 r1 r2 q2
end
end L2
namespace L2
open PySem PySem.Spec PyProof.Rows
def MtM (X : Cx) (id : String) (r : V → List V → Hp → VK → Prop) : Prop :=
  ∀ (pins : List (Addr × Obj)) (s : Shared) (σ : St) (H : Hp) (x : V) (xs : List V) (v : Value) (us : List Value) (Q : VK), Inv X pins σ H s → RelV x v → Vals xs us → r x xs H Q →
    wpAny (model X.prog X.w) X.A (call (.builtin id) (v :: us)) (EP X pins σ Q) X.xe s
theorem Vals.one : ∀ {x : V} {us : List Value}, Vals [x] us → ∃ u, us = [u] ∧ RelV x u
  | _, _, .cons r .nil => ⟨_, rfl, r⟩
theorem Vals.two : ∀ {x y : V} {us : List Value}, Vals [x, y] us → ∃ u v, us = [u, v] ∧ RelV x u ∧ RelV y v
  | _, _, _, .cons r (.cons q .nil) => ⟨_, _, rfl, r, q⟩
theorem Vals.zero : ∀ {us : List Value}, Vals [] us → us = []
  | _, .nil => rfl
theorem Vals.dropLast {xs : List V} {us : List Value} (h : Vals xs us) : Vals xs.dropLast us.dropLast := by
  induction h with
  | nil => exact .nil
  | cons r t ih =>
    cases t with
    | nil => exact .nil
    | cons q t' => exact .cons r ih
theorem Vals.rep {xs : List V} {us : List Value} (h : Vals xs us) : ∀ k : Nat, Vals (List.replicate k xs).flatten (List.replicate k us).flatten
  | 0 => .nil
  | k + 1 => by
    rw [List.replicate_succ, List.replicate_succ, List.flatten_cons, List.flatten_cons]
    exact Vals.append h (Vals.rep h k)
theorem foldl_rep (its : List Value) : ∀ (k : Nat) (acc : List Value),
    List.foldl (fun x1 x2 => x1 ++ x2) acc.toArray (List.replicate k its.toArray) = (acc ++ (List.replicate k its).flatten).toArray
  | 0, acc => by simp
  | k + 1, acc => by
    have e : acc.toArray ++ its.toArray = (acc ++ its).toArray := by simp
    have e2 : (acc ++ its) ++ (List.replicate k its).flatten = acc ++ (List.replicate (k + 1) its).flatten := by
      rw [List.replicate_succ, List.flatten_cons, List.append_assoc]
    rw [← e2, ← foldl_rep its k (acc ++ its), ← e, List.replicate_succ, List.foldl_cons]
section
variable {X : Cx} {pins : List (Addr × Obj)} {σ : St} {H : Hp} {s : Shared} {l b : Addr} {xs ys zs : List V}
theorem Inv.lset {its its' : List Value} {n : Nat} {f : Array Value → Array Value} {t' : Nat} (I : Inv X pins σ H s) (hH : H l = some (.lst xs))
    (e : s.heap.get? l = some { cls := .type "list", data := .seq its.toArray n }) (hf : f its.toArray = its'.toArray) (hv : Vals ys its') (hz : ys.length ≤ sizeLine) :
    Inv X pins σ (upd H l (.lst ys)) { s with heap := s.heap.update l (Obj.mapSeq f), toks := t' } := by
  have q := PySem.IsL.update e f
  rw [hf] at q
  refine I.write (x := l) (e := l) (by rw [hH]; exact trivial) (.inl rfl) (fun b' u hb hu => (Heap.get?_update_other s.heap (Obj.mapSeq f) (Ne.symm hb)).trans hu) ⟨_, q⟩ ?_
  exact ⟨hz, its', _, hv, q⟩
theorem Inv.lnew {its : List Value} {t' : Nat} (I : Inv X pins σ H s) (hv : Vals ys its) (hz : ys.length ≤ sizeLine) :
    Inv X pins σ (upd H s.heap.objs.size (.lst ys)) { s with heap := s.heap.push { cls := .type "list", data := .seq its.toArray }, toks := t' } :=
  I.laid (fun _ _ q => Heap.get?_push_of_some _ q) (Nat.le_refl _) ⟨hz, its, 0, hv, Heap.get?_push_size _ rfl⟩
theorem Inv.fresh (I : Inv X pins σ H s) : H s.heap.objs.size = none := I.hok.fresh (Nat.le_refl _)
theorem Inv.lstM (I : Inv X pins σ H s) (hH : H l = some (.lst xs)) : xs.length ≤ sizeLine ∧ ∃ (its : List Value) (n : Nat), Vals xs its ∧ xs.length = its.length ∧ s.heap.get? l = some { cls := .type "list", data := .seq its.toArray n } := by
  obtain ⟨z, its, n, r, e⟩ := I.hok l _ hH
  exact ⟨z, its, n, r, r.length, e⟩
theorem notLongL {n : Nat} (h : n ≤ sizeLine) : Builtin.List.listTooLong n = false := by
  unfold Builtin.List.listTooLong
  exact decide_eq_false (by omega)
end
section
variable {X : Cx}
def rAppend : V → List V → Hp → VK → Prop := fun x vs H Q => ∃ l xs y, x = .ref l ∧ vs = [y] ∧ H l = some (.lst xs) ∧ xs.length < sizeLine ∧ Q .non (upd H l (.lst (xs ++ [y])))
theorem mt_append : MtM X "list.append" rAppend := by
  intro pins s σ H x vs v us Q I rx rv h
  obtain ⟨l, xs, y, rfl, rfl, hH, hz, q⟩ := h
  cases rx
  obtain ⟨u, rfl, ru⟩ := rv.one
  obtain ⟨z, its, n, r, hl, e⟩ := I.lstM hH
  refine call_meets F.slot_list_append ⟨_, e, rfl⟩ F.entry_list_append (F.args_list_append_2 _ _) (PySem.list_append l its.toArray n u (by rw [List.size_toArray]; omega)) ⟨e, ?_⟩
  refine ⟨.non, _, I.lset (its' := its ++ [u]) hH e (by simp) (r.append (.cons ru .nil)) ?_, rfl, q⟩
  rw [List.length_append, List.length_singleton]
  omega
def rExtend : V → List V → Hp → VK → Prop := fun x vs H Q => ∃ l b xs zs, x = .ref l ∧ vs = [.ref b] ∧ H l = some (.lst xs) ∧ H b = some (.lst zs) ∧ xs.length + zs.length ≤ sizeLine ∧ Q .non (upd H l (.lst (xs ++ zs)))
theorem mt_extend : MtM X "list.extend" rExtend := by
  intro pins s σ H x vs v us Q I rx rv h
  obtain ⟨l, b, xs, zs, rfl, rfl, hH, hB, hz, q⟩ := h
  cases rx
  obtain ⟨u, rfl, ru⟩ := rv.one
  cases ru
  obtain ⟨z, its, n, r, hl, e⟩ := I.lstM hH
  obtain ⟨z2, its2, n2, r2, hl2, e2⟩ := I.lstM hB
  have hsz : its.toArray.size + its2.toArray.size ≤ sizeLine := by rw [List.size_toArray, List.size_toArray]; omega
  have hlong : ¬ (!its.toArray.isEmpty && Builtin.List.listTooLong (its.toArray.size + its2.toArray.size)) = true := by
    rw [notLongL hsz, Bool.and_false]
    exact Bool.false_ne_true
  refine call_meets F.slot_list_extend ⟨_, e, rfl⟩ F.entry_list_extend (F.args_list_extend_2 _ _)
    (AutoSeq1.list_extend_list_list_0 l its.toArray n b its2.toArray n2 hlong (by rw [List.size_toArray]; omega) (by omega)) ⟨e, e2, ?_⟩
  refine ⟨.non, _, I.lset (its' := its ++ its2) hH e (by simp) (r.append r2) ?_, rfl, q⟩
  rw [List.length_append]
  omega
def rCat : R2 := fun x y H Q => ∃ l b xs zs, x = .ref l ∧ y = .ref b ∧ H l = some (.lst xs) ∧ H b = some (.lst zs) ∧ xs.length + zs.length ≤ sizeLine ∧ ∀ p, H p = none → Q (.ref p) (upd H p (.lst (xs ++ zs)))
theorem op_cat : OpR X (binaryOp .Add) rCat := by
  intro pins s σ H x y v u Q I rx ry h
  obtain ⟨l, b, xs, zs, rfl, rfl, hH, hB, hz, q⟩ := h
  cases rx
  cases ry
  obtain ⟨z, its, n, r, hl, e⟩ := I.lstM hH
  obtain ⟨z2, its2, n2, r2, hl2, e2⟩ := I.lstM hB
  refine PySem.P.add_list e e2 ?_ (by rw [List.size_toArray, List.size_toArray]; omega)
  have ea : its.toArray ++ its2.toArray = (its ++ its2).toArray := by simp
  rw [ea]
  exact ⟨.ref _, _, I.lnew (t' := s.toks) (r.append r2) (by rw [List.length_append]; omega), rfl, q _ I.fresh⟩
def rRep : R2 := fun x y H Q => ∃ l k xs, x = .ref l ∧ y = .int k ∧ H l = some (.lst xs) ∧ -(2 ^ 63) ≤ k ∧ k < 2 ^ 63 ∧ xs.length * k.toNat ≤ sizeLine ∧
  ∀ p, H p = none → Q (.ref p) (upd H p (.lst (List.replicate k.toNat xs).flatten))
theorem len_rep {α : Type} (xs : List α) (k : Nat) : (List.replicate k xs).flatten.length = k * xs.length := by
  induction k with
  | zero => simp
  | succ k ih => rw [List.replicate_succ, List.flatten_cons, List.length_append, ih, Nat.succ_mul, Nat.add_comm]
theorem op_rep : OpR X (binaryOp .Mult) rRep := by
  intro pins s σ H x y v u Q I rx ry h
  obtain ⟨l, k, xs, rfl, rfl, hH, h1, h2, hz, q⟩ := h
  cases rx
  obtain ⟨t, rfl⟩ := ry
  obtain ⟨z, its, n, r, hl, e⟩ := I.lstM hH
  have hlen : its.toArray.size * k.toNat ≤ sizeLine := by rw [List.size_toArray, ← hl]; exact hz
  have hcap : ¬ its.toArray.size * k.toNat > (2 ^ 63 - 1) / 8 := by
    have : (sizeLine : Nat) ≤ (2 ^ 63 - 1) / 8 := by decide
    omega
  have hfit : ¬ (!Builtin.List.listFitsIndex k) = true := by
    rw [fitsIndex_both h1 h2]
    exact Bool.false_ne_true
  have hlong : ¬ Builtin.List.listTooLong (its.toArray.size * k.toNat) = true := by
    rw [notLongL hlen]
    exact Bool.false_ne_true
  have hnew : List.foldl (fun x1 x2 => x1 ++ x2) #[] (List.replicate (if its.toArray.isEmpty = true then 0 else k.toNat) its.toArray) = (List.replicate k.toNat its).flatten.toArray := by
    have f0 : ∀ m : Nat, List.foldl (fun x1 x2 => x1 ++ x2) #[] (List.replicate m its.toArray) = (List.replicate m its).flatten.toArray := fun m => by
      have := foldl_rep its m []
      rw [List.nil_append] at this
      exact this
    rw [f0]
    cases its with
    | nil => simp
    | cons a r' => rw [if_neg (by simp)]
  refine wpAny_binaryOp_repeat_ref (T := "list") (U := "int") (by decide) ⟨_, e, rfl⟩ (fun s' => typeIs_int s' k t) noFill_list_mul F.fills_int_mul F.slot_int_rmul repeat_list F.slot_int_index.lookup
    (call_meets F.slot_int_rmul (typeIs_int s k t) F.entry_int_rmul (F.args_int_rmul_2 _ _) (int___rmul___int_list k t l its.toArray n)
      ⟨e, rfl, ⟨_, e, rfl⟩, call_meets F.slot_list_mul ⟨_, e, rfl⟩ F.entry_list_mul (F.args_list_mul_2 _ _) (AutoListH.list___mul___list_int_3 l its.toArray n k t hfit hcap hlong) ⟨e, ?_⟩⟩)
  rw [hnew]
  exact ⟨.ref _, _, I.lnew (t' := s.toks) (r.rep k.toNat) (by rw [len_rep, Nat.mul_comm]; exact hz), rfl, q _ I.fresh⟩
end
section
variable {prog : Program} {w : World} {A : Around} {E : Value → Shared → Prop} {s : Shared}
end
section
variable {X : Cx}
end
end L2
namespace Att
open PySem PySem.W PySem.Calls PyProof.Rows
theorem ints_of_wellAll {P : Params} {h : Heap} : ∀ (ns : List Int) (vs : List Value), WellAll P h vs (ns.map WData.int) → IntsAre vs ns := by
  intro ns
  induction ns with
  | nil =>
    intro vs w
    rw [List.map_nil] at w
    cases w
    exact .nil
  | cons n ns ih =>
    intro vs w
    rw [List.map_cons] at w
    cases w with
    | cons a b =>
      cases a
      exact .cons _ _ (ih _ b)
theorem script_of {l : OpenLaw} {n : Nat} (hn : l.most = some n) {P : Params} {h : Heap} {args : List WData} {vals : List Value}
    (hpre : l.row.toRowW.claim.pre args = true) (hwl : WellAll P h vals args) :
    ∃ a vs ns, vals = [Value.ref a] ∧ args = [WData.list (ns.map WData.int)] ∧ h.get? a = some { cls := .type "list", data := .seq vs.toArray } ∧ IntsAre vs ns ∧ ns.length ≤ n := by
  have hsh : WShape.hasAll [] args [.list .int] = true := (pre_splitW hpre).1
  have hc : l.pre.holds [] { args := args } = true := (pre_splitW hpre).2
  obtain ⟨d, r, rfl, h1, h2⟩ := hasAllW_cons hsh
  obtain rfl := hasAllW_nil h2
  obtain ⟨xs, rfl, h3⟩ := hasW_list h1
  obtain ⟨ns, rfl⟩ := items_int h3
  have hlen : ns.length ≤ n := by
    unfold OpenLaw.pre at hc
    have h4 : (WTm.not (.lt (.lit (.int (n : Int))) (.len (.arg 0)))).holds [] { args := [.list (ns.map .int)] } = true := by
      have h4 := (holds_andW hc).1
      rw [hn] at h4
      exact h4
    have h5 := condW_of h4 (w_not (w_lt w_lit (w_len_list (w_arg rfl))))
    rw [List.length_map] at h5
    refine Nat.le_of_not_lt fun q => ?_
    have q' : (n : Int) < ((ns.length : Nat) : Int) := by omega
    first
      | (rw [decide_eq_true q'] at h5; exact absurd h5 (by decide))
      | (simp at h5; omega)
  cases hwl with
  | cons w1 w2 =>
    cases w2
    cases w1 with
    | list ho hall => exact ⟨_, _, ns, rfl, rfl, ho, ints_of_wellAll ns _ hall, hlen⟩
theorem post_true (l : OpenLaw) (args : List WData) : l.row.toRowW.claim.post args (.bool true) args = true :=
  postW_of (r := l.row.toRowW) (X := (true == true))
    (show WShape.has [] (.bool true) .bool = true by first | rfl | decide | simp [WShape.has, WShape.arms, WShape.armsAll])
    (show (WTm.eq .res (.lit (.bool true))).value [] { args := args, res := some (.bool true), after := args } = some (.bool (true == true)) from w_eq_bool (w_res rfl) w_lit) rfl
theorem attach_call {l : OpenLaw} {n : Nat} {q : Program} {loose : List Str} {XP : (Str → Option Value) → Heap → Prop} {YP : World → Heap → Prop} {d : DefRec}
    (hn : l.most = some n) (hdf : d.params.defaults = [])
    (call : ∀ (w : World) (s₀ s₁ : Shared) (mg mb : Str → Option Value) (fa : Addr) (o : Obj) (pm cd doc : Value) (a : Addr) (vs : List Value) (ns : List Int),
      Ground q loose [] XP w s₀ mg mb s₁.heap → YP w s₁.heap →
      s₁.heap.get? fa = some o → o.data = .func (docDef d.name d.params d.body d.scope pm cd doc) → s₁.heap.CodeRec cd d.name → mg d.name = some (.ref fa) →
      s₁.heap.get? a = some { cls := .type "list", data := .seq vs.toArray } → IntsAre vs ns → ns.length ≤ n → s₁.gens = #[] →
      codeAny (model l.prog w) callerA (.call (.ref fa) ⟨[.ref a], []⟩) (fun r s' => r = .ok (.ret (.bool true)) ∧ OldK s₁.heap s'.heap ∧ s'.os = s₁.os ∧ AllBare s'.gens) s₁) :
    WalkO q loose XP YP l.row.toRowW d [] (fun f vs => PySem.call f vs) := by
  intro w s₀ s₁ mg mb G Y fa o pm cd doc dV kV ho hd hcd hD hmg hg args vals as hpre hlay hrd hwl hlo
  obtain rfl : dV = .none := Dflts.none hD hdf
  obtain rfl : kV = .none := Dflts.noKw hD
  obtain ⟨a, vs, ns, rfl, rfl, hobj, hints, hlen⟩ := script_of hn hpre hwl
  refine enter_call (codeAny_mono (call w s₀ s₁ mg mb fa o pm cd doc a vs ns G Y ho (fd_plain hd) hcd hmg hobj hints hlen hg) fun r s' hq => ?_)
  obtain ⟨rfl, h2, h3, h4⟩ := hq
  exact ⟨.inl ⟨.bool true, .bool true, [], rfl, fun _ => rfl, .bool true, post_true l _, fun _ => ⟨List.Pairwise.nil, fun _ hm => (nomatch hm)⟩⟩, h2, h3, h4⟩
section
variable {prog : Program} {w : World} {A : Around} {E : Value → Shared → Prop} {s : Shared} {K : Frag}
end
end Att
namespace L2
open PySem PySem.Spec PyProof.Rows
theorem vals_ints : ∀ {vs : List Value} {ns : List Int}, IntsAre vs ns → Vals (ns.map V.int) vs
  | _, _, .nil => .nil
  | _, _, .cons n t h => .cons ⟨t, rfl⟩ (vals_ints h)
def Only (H : Hp) : Prop := ∀ b, H b = none ∨ ∃ o xs, H b = some (.frz o (.lst xs))
theorem law_call {P : Program} {w : World} {K : PySem.W.Frag} {mg mb : Str → Option Value} {CX : CXT} {k : Nat} {fa a : Addr} {fd : FuncData} {x : Str} {sp : Sp} {s₁ : Shared} {vs : List Value} {ns : List Int}
    (KX : K.In s₁.heap) (hns : s₁.heap.Ns mainGlobals mg) (hb : s₁.heap.Ns builtinsNs mb) (hbb : ∀ x : Str, x ≠ "__name__" → mb x = bootBuiltins x) (hlim : s₁.heap.NoLimit) (hg : s₁.gens = #[])
    (ha : s₁.heap.get? a = some { cls := .type "list", data := .seq vs.toArray }) (hi : IntsAre vs ns) (hl : ns.length ≤ sizeLine) (hr : Room k callerA)
    (F : ∀ base : Heap, K.In base → base.Ns mainGlobals mg → FnOk P w K mg base CX k fa fd [x] sp) (hbind : ∀ (s : Shared) (u : Value), BindsTo s fd ⟨[u], []⟩ [(x, u)])
    (hsp : ∀ H : Hp, Only H → SqL K H a (ns.map V.int) → sp [.ref a] H (fun v _ => v = .bl true) fun _ _ _ => False)
    (hCX : ∀ H e s', CX [] H s₁ (fun _ _ _ => False) e s' → False) :
    codeAny (model P w) callerA (.call (.ref fa) ⟨[.ref a], []⟩) (fun r s' => r = .ok (.ret (.bool true)) ∧ OldK s₁.heap s'.heap ∧ s'.os = s₁.os ∧ AllBare s'.gens) s₁ := by
  have rv := vals_ints hi
  have lenV := hi.length
  have core : ∀ H : Hp, Only H → SqL K H a (ns.map V.int) → HOk P w H s₁.heap → (∀ b, H b ≠ none → b = a) → (H a ≠ none → K.lookup a = none) →
      codeAny (model P w) callerA (.call (.ref fa) ⟨[.ref a], []⟩) (fun r s' => r = .ok (.ret (.bool true)) ∧ OldK s₁.heap s'.heap ∧ s'.os = s₁.os ∧ AllBare s'.gens) s₁ := by
    intro H hO hS hok hA hK
    have base_of : ∀ {b : Addr} {o : Obj}, s₁.heap.get? b = some o → H b = none → (hidT s₁.heap H).get? b = some o := fun e n => hidT_get e n
    have noA : ∀ {b : Addr} {o : Obj} {es : Array DictEntry} {ep : Nat}, s₁.heap.get? b = some o → o.data = .dict es ep → H b = none := fun {b o es ep} e d => by
      cases q : H b with
      | none => rfl
      | some u =>
        have e' : b = a := hA b (by rw [q]; simp)
        subst e'
        rw [ha] at e; cases e
        have d' : Data.seq vs.toArray _ = Data.dict es ep := d
        cases d'
    have nsK : ∀ {b : Addr} {m : Str → Option Value}, s₁.heap.Ns b m → (hidT s₁.heap H).Ns b m := fun {b m} ⟨o, es, ep, e, d, r⟩ => ⟨o, es, ep, base_of e (noA e d), d, r⟩
    have hKb : K.In (hidT s₁.heap H) := fun b o e => base_of (KX b o e) (by
      cases q : H b with
      | none => rfl
      | some u =>
        have e' : b = a := hA b (by rw [q]; simp)
        subst e'
        rw [hK (by rw [q]; simp)] at e; cases e)
    have hM : Mod K mg (hidT s₁.heap H) := ⟨hKb, nsK hns, ⟨mb, nsK hb, hbb⟩, let ⟨mc, h1, h2⟩ := hlim; ⟨mc, nsK h1, h2⟩⟩
    have e0 : Env0 P w K mg (hidT s₁.heap H) callerA [] s₁ H := ⟨rfl, hM, fun b o e => of_hidT e, Nat.le_of_eq (hidT_size _ _), trivial, fun b hb => absurd (show b ∈ ([] : List Addr) from hb) (by simp), hok, .of_eq hg⟩
    refine codeAny_mono ((F _ hKb (nsK hns)).run callerA [] s₁ H ⟨[.ref a], []⟩ [.ref a] [.ref a] _ _ hr e0 (hbind s₁ (.ref a)) (.cons rfl .nil) (hsp H hO hS)) fun r s' h => ?_
    cases r with
    | error e => exact (hCX H e s' h).elim
    | ok fl =>
      cases fl with
      | next => exact False.elim h
      | brk => exact False.elim h
      | cont => exact False.elim h
      | ret u =>
        obtain ⟨v, H', os, bare, un, hok', r', q⟩ := h
        have q' : v = .bl true := q
        subst q'
        obtain rfl : u = Value.bool true := r'
        refine ⟨rfl, OldK.of_keep fun b o e => ?_, os, bare⟩
        cases q : H b with
        | none => exact un.keep b o e q (by intro z; exact absurd (show b ∈ ([] : List Addr) from z) (by simp)) (by simp)
        | some u =>
          rcases hO b with z | ⟨ob, xs, z⟩
          · rw [q] at z; cases z
          · have z2 := un.frzs b ob _ z
            obtain ⟨e1, _⟩ := hok b _ z
            obtain ⟨e2, _⟩ := hok' b _ z2
            rw [e] at e1; cases e1
            exact e2
  cases hk : K.lookup a with
  | some o =>
    have e := KX a o hk
    rw [ha] at e
    cases e
    refine core (fun _ => none) (fun _ => .inl rfl) (.inr ⟨_, vs.toArray, _, hk, rfl, rfl, rfl, by rw [List.size_toArray, lenV]; exact hl, by simpa using rv⟩) (fun b u z => by have z' : (none : Option HO) = some u := z; cases z') (fun b z => absurd rfl z) fun z => absurd rfl z
  | none =>
    refine core (fun b => if b = a then some (.frz { cls := .type "list", data := .seq vs.toArray } (.lst (ns.map V.int))) else none) (fun b => ?_) (.inl (.inr ⟨{ cls := .type "list", data := .seq vs.toArray }, if_pos rfl⟩)) (fun b u z => ?_) (fun b z => ?_) fun _ => hk
    · by_cases hb : b = a
      · exact .inr ⟨_, _, if_pos hb⟩
      · exact .inl (if_neg hb)
    · by_cases hb : b = a
      · have z' := (if_pos hb).symm.trans z
        cases z'
        subst hb
        exact ⟨ha, by rw [List.length_map]; exact hl, vs, _, rv, ha⟩
      · have z' := (if_neg hb).symm.trans z
        cases z'
    · by_cases hb : b = a
      · exact hb
      · exact absurd (if_neg hb) z
end L2
namespace L2
open PySem PySem.Spec PyProof.Rows
theorem walk_of {l : PySem.W.OpenLaw} {n k : Nat} {q : Program} {loose : List Str} {XP : (Str → Option Value) → Heap → Prop} {YP : World → Heap → Prop} {d : DefRec} {K : Params → PySem.W.Frag} {CX : World → CXT} {sp : World → Sp} {x : Str}
    (hn : l.most = some n) (hn2 : n ≤ sizeLine) (hdf : d.params.defaults = []) (hr : Room k callerA)
    (hY : ∀ (w : World) (h : Heap), YP w h → (K w.params).In h)
    (F : ∀ (w : World) (mg : Str → Option Value) (fa : Addr) (h : Heap), (K w.params).In h → h.Ns mainGlobals mg → mg d.name = some (.ref fa) →
      ∃ fd : FuncData, (∀ (s : Shared) (u : Value), BindsTo s fd ⟨[u], []⟩ [(x, u)]) ∧
        ∀ base : Heap, (K w.params).In base → base.Ns mainGlobals mg → FnOk l.prog w (K w.params) mg base (CX w) k fa fd [x] (sp w))
    (hsp : ∀ (w : World) (H : Hp) (a : Addr) (ns : List Int), ns.length ≤ n → Only H → SqL (K w.params) H a (ns.map V.int) → sp w [.ref a] H (fun v _ => v = .bl true) fun _ _ _ => False)
    (hCX : ∀ (w : World) (H : Hp) (s : Shared) (e : Value) (s' : Shared), CX w [] H s (fun _ _ _ => False) e s' → False) :
    PySem.W.WalkO q loose XP YP l.row.toRowW d [] (fun f vs => PySem.call f vs) := by
  refine Att.attach_call hn hdf fun w s₀ s₁ mg mb fa o pm cd doc a vs ns G Y ho hd hcd hmg hobj hints hlen hg => ?_
  have KX := hY w _ Y
  obtain ⟨fd, hb, hF⟩ := F w mg fa _ KX G.T.g hmg
  exact law_call KX G.T.g G.T.b G.T.builtins G.T.nolimit hg hobj hints (Nat.le_trans hlen hn2) hr hF hb (fun H hO hS => hsp w H a ns hlen hO hS) fun H e s' => hCX w H s₁ e s'
end L2
namespace L2
open PySem PySem.Spec PyProof.Rows
def defArgs (s : Stmt) : Arguments := match s with
  | .FunctionDef _ a _ _ _ _ _ _ _ _ => a
  | _ => { posonlyargs := [], args := [], vararg := none, kwonlyargs := [], kw_defaults := [], kwarg := none, defaults := [] }
def defBody (s : Stmt) : List Stmt := match s with
  | .FunctionDef _ _ b _ _ _ _ _ _ _ => b
  | _ => []
def defScope (s : Stmt) : Scope := match s with
  | .FunctionDef _ _ _ _ _ _ sc _ _ _ => sc
  | _ => { kind := .function, names := [], isGenerator := false, isCoroutine := false }
abbrev CX0 : CXT := fun _ _ _ _ _ _ => False
abbrev E0 : XK := fun _ _ _ => False
theorem pass0 {X : Cx} : Passes CX0 X E0 := fun _ _ _ _ _ _ _ h => h.elim
structure Fun (K : PySem.W.Frag) (x qual : Str) (st : Stmt) (f : Addr) (fd : FuncData) : Prop where
  ex : ∃ (oc : Value) (od : Option Addr) (kV doc pm : Value) (an : Option Addr) (cdv ct : Value) (osl : Array (Option Value)),
    fd = PySem.W.fnOf x qual (defArgs st) (defBody st) (defScope st) .none kV doc pm an cdv ct ∧ K.lookup f = some ⟨oc, od, .func fd, osl⟩ ∧ PySem.W.codeIn K cdv qual = true
  kp : PySem.W.keepIn K (.ref f) = true
section
variable {P : Program} {w : World} {K : PySem.W.Frag} {mg : Str → Option Value} {base : Heap}
theorem Fun.ok {x qual : Str} {st : Stmt} {f : Addr} {fd : FuncData} {N ps : List Str} {k : Nat} {sp : Sp} (F : Fun K x qual st f fd) (S : FnScope N ps (defScope st)) (len : ∀ vs H Q E, sp vs H Q E → vs.length = ps.length)
    (hbody : ∀ (cdv : Value) (A : Around) (outer : List Env) (s : Shared) (H : Hp) (vs : List V) (Q : VK) (E : XK), Room k (A.deeper (envOfC qual (defScope st) s.heap.objs.size f cdv)) → sp vs H Q E →
      ∃ t, PSs (cxOf CX0 P w K mg base N qual (defScope st) f cdv A outer s H E).nox (defBody st) t ∧ t { nx := fun _ H' => Q .non H', rt := Q } (start N vs) H) : FnOk P w K mg base CX0 (k + 1) f fd ps sp := by
  obtain ⟨oc, od, kV, doc, pm, an, cdv, ct, osl, rfl, lk, hcd⟩ := F.ex
  refine fn_of lk hcd S len fun A outer s H vs Q E hr hsp => ?_
  obtain ⟨t, h, q⟩ := hbody cdv A outer s H vs Q E hr hsp
  exact ⟨t, h.nox, q⟩
theorem Fun.binds {x qual : Str} {st : Stmt} {f : Addr} {fd : FuncData} {ps : List Str} (F : Fun K x qual st f fd)
    (h : ∀ (kV doc pm : Value) (an : Option Addr) (cdv ct : Value) (us : List Value), us.length = ps.length → bindArgs (PySem.W.fnOf x qual (defArgs st) (defBody st) (defScope st) .none kV doc pm an cdv ct) ⟨us, []⟩ = pure (ps.zip us)) : Binds K fd ps [] := by
  obtain ⟨oc, od, kV, doc, pm, an, cdv, ct, osl, rfl, lk, hcd⟩ := F.ex
  exact .all (h kV doc pm an cdv ct)
theorem fun_mk {x qual : Str} {st : Stmt} {f : Addr} {oc : Value} {od an : Option Addr} {osl : Array (Option Value)} {kV doc pm cdv ct : Value} (l : K.lookup f = some ⟨oc, od, .func (PySem.W.fnOf x qual (defArgs st) (defBody st) (defScope st) .none kV doc pm an cdv ct), osl⟩)
    (c : PySem.W.codeIn K cdv qual = true) (k : PySem.W.keepIn K (.ref f) = true) : Fun K x qual st f (PySem.W.fnOf x qual (defArgs st) (defBody st) (defScope st) .none kV doc pm an cdv ct) := ⟨⟨oc, od, kV, doc, pm, an, cdv, ct, osl, rfl, l, c⟩, k⟩
end
theorem small1000 {n : Nat} (h : n ≤ 1000) : n < sizeLine := Nat.lt_of_le_of_lt h (by decide)
section
variable {X : Cx}
theorem pv (i : Nat) {x : Str} {pos : Pos} (hN : X.N[i]? = some x := by rfl) (hv : Vis X.env.scope x := by first | exact Or.inl rfl | exact Or.inr (Or.inl rfl) | exact Or.inr (Or.inr rfl)) (hd : (x == ("__debug__" : Str)) = false := by decide)
    (hcd : (x == ("__classdict__" : Str)) = false := by decide) : PE X (.Name x pos) (tVar i) := pe_var hN hv hd hcd
end
theorem iteF {A B : Prop} (h : B) : if false = true then A else B := by
  rw [if_neg Bool.false_ne_true]
  exact h
theorem iteT {A B : Prop} (h : A) : if true = true then A else B := by
  rw [if_pos rfl]
  exact h
theorem ite2 {c A B : Prop} [Decidable c] (h1 : c → A) (h2 : ¬ c → B) : if c then A else B := by
  by_cases h : c
  · rw [if_pos h]
    exact h1 h
  · rw [if_neg h]
    exact h2 h
def Same (H H' : Hp) : Prop := ∀ b o, H b = some o → H' b = some o
theorem Same.refl (H : Hp) : Same H H := fun _ _ h => h
theorem Same.trans {H H1 H2 : Hp} (a : Same H H1) (b : Same H1 H2) : Same H H2 := fun c o h => b c o (a c o h)
theorem Same.free {H H' : Hp} (e : Same H H') {l : Addr} (h : H' l = Option.none) : H l = Option.none := by
  cases q : H l with
  | none => rfl
  | some o =>
    rw [e l o q] at h
    cases h
theorem Same.seq {K : PySem.W.Frag} {H H' : Hp} {a : Addr} {xs : List V} (e : Same H H') (h : SqL K H a xs) : SqL K H' a xs := by
  rcases h with (h | ⟨o, h⟩) | h
  · exact .inl (.inl (e _ _ h))
  · exact .inl (.inr ⟨o, e _ _ h⟩)
  · exact .inr h
end L2
namespace L2
open PySem PySem.Spec PyProof.Rows
theorem codeAny_compLoop_gen {prog : Program} {w : World} {A : Around} {R : Result → Shared → Prop} {s : Shared} {elt target iter : Expr} {ifs : List Expr} {scope : Scope} {pos : Pos} {it acc : Value} {env : Env} (I : Nat → Shared → Prop)
    (turn : ∀ n s, I n s → wpAny (model prog w) A (pyNext it) (fun r s₁ => match r with
      | none => R (.ok .next) s₁
      | some v => wpAny (model prog w) A (letOwnedTupleGo target it v) (fun _ s₁' => wpAny (model prog w) A (assign target env v) (fun _ s₂ =>
          wpAny (model prog w) A (forIn ifs true fun c r => if r = true then do let ok ← isTrue c env (eval c env); pure (ForInStep.yield ok) else pure (ForInStep.yield r)) (fun ok s₃ =>
            if ok = true then wpAny (model prog w) A (eval elt env) (fun x s₄ =>
              wpAny (model prog w) A (call (.builtin "list.append") [acc, x]) (fun _ s₅ => ∃ m, m < n ∧ I m s₅) (fun _ _ => False) s₄) (fun _ _ => False) s₃
            else ∃ m, m < n ∧ I m s₃) (fun _ _ => False) s₂) (fun _ _ => False) s₁') (fun _ _ => False) s₁) (fun _ _ => False) s)
    (n : Nat) (h : I n s) :
    codeAny (model prog w) A (.compLoop (.ListComp elt [⟨target, iter, ifs, 0⟩] scope pos) 0 it acc env) R s := by
  refine codeAny_loop rfl I (fun n s hI => ?_) n h
  show wpAny _ A ((compTurn (.ListComp elt [⟨target, iter, ifs, 0⟩] scope pos) 0 it acc env).onRaise (fun x => do noteFrame x env; theTreesLotGoes x)) _ _ s
  refine wpAny_noted ?_
  rw [compTurn_list]
  refine wpAny_bind (wpAny_standAt (wpAny_bind (wpAny_mono (turn n s hI) (fun r s₁ h₁ => ?_) fun _ _ h' => h'.elim)))
  cases r with
  | none => exact wpAny_pure h₁
  | some v =>
    refine wpAny_bind (wpAny_mono h₁ (fun _ s₁' h₁' => ?_) fun _ _ h' => h'.elim)
    refine wpAny_bind (wpAny_mono h₁' (fun _ s₂ h₂ => wpAny_bind (wpAny_mono h₂ (fun ok s₃ h₃ => ?_) fun _ _ h' => h'.elim)) fun _ _ h' => h'.elim)
    cases ok with
    | false => exact wpAny_pure ⟨rfl, h₃⟩
    | true =>
      exact wpAny_bind (wpAny_bind (wpAny_mono h₃ (fun x s₄ h₄ => wpAny_bind (wpAny_mono h₄ (fun _ s₅ h₅ => wpAny_pure (wpAny_pure ⟨rfl, h₅⟩)) fun _ _ h' => h'.elim)) fun _ _ h' => h'.elim))
def closL (env : Env) : List (Str × NameKind) → List (Str × Addr) → List (Str × Addr)
  | [], acc => acc
  | (n, k) :: r, acc => closL env r (if k == NameKind.free then (n, (env.cells.lookup n).getD 0) :: acc else acc)
theorem clos_eq {env : Env} (has : ∀ x, (∃ c, env.cells.lookup x = some c) ∨ True) : ∀ (names : List (Str × NameKind)) (acc : List (Str × Addr)), (∀ y ∈ names, y.2 = .free → ∃ c, env.cells.lookup y.1 = some c) →
    (forIn names acc (fun (x : Str × NameKind) (cs : List (Str × Addr)) => (if (x.2 == NameKind.free) = true then (do let a ← cellOf env x.1; pure (ForInStep.yield ((x.1, a) :: cs))) else pure (ForInStep.yield cs) : Sem (ForInStep (List (Str × Addr))))) : Sem (List (Str × Addr))) = pure (closL env names acc)
  | [], acc, _ => rfl
  | (n, k) :: r, acc, h => by
    rw [List.forIn_cons]
    by_cases hk : (k == NameKind.free) = true
    · obtain ⟨c, hc⟩ := h (n, k) List.mem_cons_self (by simpa using hk)
      have hc' : env.cells.lookup n = some c := hc
      have e : cellOf env n = pure c := by unfold cellOf; rw [hc']
      simp only [hk, if_true, e, pure_bind]
      rw [clos_eq has r _ fun y hy => h y (List.mem_cons_of_mem _ hy)]
      simp only [closL, hk, if_true, hc', Option.getD_some]
    · have hk' : (k == NameKind.free) = false := by simpa using hk
      simp only [hk', Bool.false_eq_true, if_false, pure_bind]
      rw [clos_eq has r _ fun y hy => h y (List.mem_cons_of_mem _ hy)]
      simp only [closL, hk', Bool.false_eq_true, if_false]
theorem closureFor_eq {env : Env} {scope : Scope} (h : ∀ y ∈ scope.names, y.2 = .free → ∃ c, env.cells.lookup y.1 = some c) : closureFor scope env = pure (closL env scope.names []) := by
  have q := clos_eq (env := env) (fun _ => .inr trivial) scope.names [] h
  unfold closureFor
  show (forIn scope.names [] _ >>= fun cs => pure cs) = _
  rw [bind_pure]
  exact q
theorem closL_of {env : Env} : ∀ (names : List (Str × NameKind)) (acc : List (Str × Addr)) (x : Str) (c : Addr), (∀ y ∈ names, y.2 = .free → ∃ c, env.cells.lookup y.1 = some c) →
    (∀ x c, acc.lookup x = some c → env.cells.lookup x = some c) → (closL env names acc).lookup x = some c → env.cells.lookup x = some c
  | [], acc, x, c, _, ha, h => ha x c h
  | (n, k) :: r, acc, x, c, hf, ha, h => by
    refine closL_of r _ x c (fun y hy => hf y (List.mem_cons_of_mem _ hy)) ?_ h
    intro y d hd
    by_cases hk : (k == NameKind.free) = true
    · obtain ⟨c', hc'⟩ := hf (n, k) List.mem_cons_self (by simpa using hk)
      have hc'' : env.cells.lookup n = some c' := hc'
      rw [if_pos hk, List.lookup_cons] at hd
      by_cases e : (y == n) = true
      · have e' : y = n := by simpa using e
        subst e'
        rw [e] at hd
        rw [hc''] at hd ⊢
        simpa using hd
      · have e2 : (y == n) = false := by simpa using e
        rw [e2] at hd
        exact ha y d hd
    · rw [if_neg hk] at hd
      exact ha y d hd
theorem closL_acc {env : Env} {x : Str} : ∀ (names : List (Str × NameKind)) (acc : List (Str × Addr)), (∃ c, acc.lookup x = some c) → ∃ c, (closL env names acc).lookup x = some c
  | [], acc, h => h
  | (n, k) :: r, acc, h => by
    refine closL_acc r _ ?_
    obtain ⟨c, hc⟩ := h
    by_cases hk : (k == NameKind.free) = true
    · rw [if_pos hk, List.lookup_cons]
      cases (x == n) with
      | true => exact ⟨_, rfl⟩
      | false => exact ⟨c, hc⟩
    · rw [if_neg hk]
      exact ⟨c, hc⟩
theorem closL_has {env : Env} {x : Str} : ∀ (names : List (Str × NameKind)) (acc : List (Str × Addr)), (x, NameKind.free) ∈ names → ∃ c, (closL env names acc).lookup x = some c
  | [], _, h => by cases h
  | (n, k) :: r, acc, h => by
    rcases List.mem_cons.mp h with e | h
    · cases e
      refine closL_acc r _ ?_
      rw [if_pos (by rfl), List.lookup_cons]
      simp
    · exact closL_has r _ h
theorem mem_of_lookup' {names : List (Str × NameKind)} {x : Str} {k : NameKind} (h : names.lookup x = some k) : (x, k) ∈ names := PySem.mem_of_lookup h
theorem relabel_kind {env : Env} : ∀ {names : List (Str × NameKind)} {x : Str} {k : NameKind}, (names.map fun (n, k) => if (k == NameKind.free && env.scope.kind == .function && env.kindOf n == some .cell) then (n, NameKind.cell) else (n, k)).lookup x = some k →
    ∃ k', names.lookup x = some k' ∧ (k' = k ∨ (k' = .free ∧ k = .cell))
  | [], _, _, h => by simp at h
  | (n, k0) :: r, x, k, h => by
    have ih := @relabel_kind env r x k
    have h' : List.lookup x ((if (k0 == NameKind.free && env.scope.kind == .function && env.kindOf n == some .cell) = true then (n, NameKind.cell) else (n, k0)) :: (r.map fun (n, k) => if (k == NameKind.free && env.scope.kind == .function && env.kindOf n == some .cell) then (n, NameKind.cell) else (n, k))) = some k := h
    by_cases hc : (k0 == NameKind.free && env.scope.kind == .function && env.kindOf n == some .cell) = true
    · rw [if_pos hc, List.lookup_cons] at h'
      rw [List.lookup_cons]
      cases hx : x == n with
      | true =>
        rw [hx] at h'
        simp only [Option.some.injEq] at h'
        have hk0 : k0 = .free := by
          simp only [Bool.and_eq_true, beq_iff_eq] at hc
          exact hc.1.1
        exact ⟨k0, rfl, .inr ⟨hk0, h'.symm⟩⟩
      | false => rw [hx] at h'; exact ih h'
    · rw [if_neg hc, List.lookup_cons] at h'
      rw [List.lookup_cons]
      cases hx : x == n with
      | true =>
        rw [hx] at h'
        simp only [Option.some.injEq] at h'
        exact ⟨k0, rfl, .inl h'⟩
      | false => rw [hx] at h'; exact ih h'
def compCx (X : Cx) (scope : Scope) (N' : List Str) (C : Addr) (s₂ : Shared) (H₂ : Hp) (fp : List Addr) : Cx :=
  { X with N := N', s₀ := s₂, H₀ := H₂, env := compEnvC scope (closL X.env scope.names []) C X.env, outer := X.stack, ex := fp, fn := fun _ => false, pn := [], xe := fun _ _ => False }
def compSt (js : List (Option Nat)) (σ : St) : St := js.map fun o => o.bind fun j => (σ[j]?).bind fun v => v
structure CompOk (X : Cx) (scope : Scope) (N' : List Str) (js : List (Option Nat)) : Prop where
  kind : scope.kind = .function
  cell : ∀ y ∈ scope.names, y.2 ≠ .cell
  free : ∀ y ∈ scope.names, y.2 = .free → X.env.kindOf y.1 = some .cell ∨ X.env.kindOf y.1 = some .free
  names : ∀ y ∈ scope.names, y.2 = .local → scope.names.lookup y.1 = some .local
  len : js.length = N'.length
  at' : ∀ (i j : Nat), js[i]? = some (some j) → ∃ y, N'[i]? = some y ∧ X.N[j]? = some y ∧ scope.names.lookup y = some .free
def compChk (sc : Scope) (N : List Str) (scope : Scope) (N' : List Str) (js : List (Option Nat)) : Bool :=
  (scope.kind == .function) && scope.names.all (fun y => y.2 != .cell) && scope.names.all (fun y => y.2 != .free || sc.names.lookup y.1 == some .cell || sc.names.lookup y.1 == some .free) &&
    scope.names.all (fun y => y.2 != .local || scope.names.lookup y.1 == some .local) && (js.length == N'.length) &&
    (List.range js.length).all (fun i => match js[i]? with | some (some j) => (match N'[i]?, N[j]? with | some y, some z => y == z && scope.names.lookup y == some .free | _, _ => false) | _ => true)
theorem compOk_of {X : Cx} {scope : Scope} {N' : List Str} {js : List (Option Nat)} (h : compChk X.env.scope X.N scope N' js = true) : CompOk X scope N' js := by
  unfold compChk at h
  simp only [Bool.and_eq_true] at h
  obtain ⟨⟨⟨⟨⟨h1, h2⟩, h3⟩, h4⟩, h5⟩, h6⟩ := h
  rw [List.all_eq_true] at h2 h3 h4 h6
  refine ⟨by simpa using h1, fun y hy => by simpa using h2 y hy, fun y hy e => ?_, fun y hy e => ?_, by simpa using h5, fun i j e => ?_⟩
  · have q := h3 y hy
    rw [e] at q
    simp only [bne_self_eq_false, Bool.false_or, Bool.or_eq_true, beq_iff_eq] at q
    exact q
  · have q := h4 y hy
    rw [e] at q
    simp only [bne_self_eq_false, Bool.false_or, beq_iff_eq] at q
    exact q
  · have hi : i < js.length := (List.getElem?_eq_some_iff.mp e).1
    have q := h6 i (List.mem_range.mpr hi)
    rw [e] at q
    simp only at q
    cases e1 : N'[i]? with
    | none => rw [e1] at q; simp at q
    | some y =>
      cases e2 : X.N[j]? with
      | none => rw [e1, e2] at q; simp at q
      | some z =>
        rw [e1, e2] at q
        simp only [Bool.and_eq_true, beq_iff_eq] at q
        obtain ⟨rfl, q⟩ := q
        exact ⟨y, rfl, rfl, q⟩
def PIfs (X : Cx) (ifs : List Expr) (t : TT) : Prop :=
  ∀ (pins : List (Addr × Obj)) (s : Shared) (σ : St) (H : Hp) (Q : Bool → Hp → Prop), Inv X pins σ H s → t σ H Q →
    wpAny (model X.prog X.w) X.A (forIn ifs true fun c r => if r = true then do let ok ← isTrue c X.env (eval c X.env); pure (ForInStep.yield ok) else pure (ForInStep.yield r)) (TP X pins σ Q) X.xe s
def tYes : TT := fun _ H Q => Q true H
theorem pif_nil {X : Cx} : PIfs X [] tYes := fun _ _ _ H _ I h => wpAny_tests_nil ⟨H, I, h⟩
theorem pif_one {X : Cx} {c : Expr} {t : TT} (h : PT X c t) : PIfs X [c] t := fun pins s σ H Q I q => wpAny_tests_one (h pins s σ H Q I q)
def At (Q : VK) (v : V) (H : Hp) : Prop := Q v H
def tComp (wi : TI) (js : List (Option Nat)) (g : TG) (tt : TT) (te : TE) : TE := fun σ H Q => wi σ H fun J H1 => ∀ D, H1 D = none →
  ∃ W : Nat → Nat → St → List V → Hp → Prop, (∃ m, W 0 m (compSt js σ) [] (upd H1 D (.lst []))) ∧ ∀ i m τ ys H', W i m τ ys H' →
    H' D = some (.lst ys) ∧ ((J.stop i H' ∧ At Q (.ref D) H') ∨ (J.go i H' ∧ ys.length < sizeLine ∧ ∀ x H2, J.yld i H' x H2 → g x τ H2 fun τ2 H3 => tt τ2 H3 fun ok H4 =>
      if ok = true then te τ2 H4 fun y H5 => H5 D = some (.lst ys) ∧ ∃ m', m' < m ∧ W (i + 1) m' τ2 (ys ++ [y]) (upd H5 D (.lst (ys ++ [y]))) else ∃ m', m' < m ∧ W (i + 1) m' τ2 ys H4))
section
variable {X : Cx} {scope : Scope} {N' : List Str} {js : List (Option Nat)} {tg elt iter : Expr} {ifs : List Expr} {pos : Pos} {wi : TI} {g : TG} {tt : TT} {te : TE}
theorem comp_start {pins : List (Addr × Obj)} {σ : St} {H : Hp} {s : Shared} {C D : Addr} {h₁ : Heap} {tk : Nat} {m : Str → Option Value} {fp : List Addr} (S : CompOk X scope N' js) (I : Inv X pins σ H s) (hf : ∀ b ∈ fp, FpOk X pins H b)
    (hfo : ∀ b ∈ fp, ∃ o, s.heap.get? b = some o) (hD : s.heap.objs.size ≤ D) (hC : s.heap.objs.size ≤ C) (hDC : D ≠ C) (hns : h₁.Ns C m) (hk : ∀ b o, s.heap.get? b = some o → h₁.get? b = some o) (hl : h₁.get? D = some { cls := .type "list", data := .seq #[] 0 }) :
    Inv (compCx X scope N' C s H fp) [] (compSt js σ) (upd H D (.lst [])) { s with heap := h₁, toks := tk } := by
  have has : ∀ y ∈ scope.names, y.2 = .free → ∃ c, X.env.cells.lookup y.1 = some c := fun y hy e => I.ok.has y.1 (S.free y hy e)
  have back : ∀ x c, (closL X.env scope.names []).lookup x = some c → X.env.cells.lookup x = some c := fun x c h => closL_of scope.names [] x c has (fun _ _ z => by simp at z) h
  have hlt : ∀ b o, s.heap.get? b = some o → b < s.heap.objs.size := fun b o e => Heap.lt_size e
  have cellsK : ∀ x c, X.env.cells.lookup x = some c → ∀ v, s.heap.IsCell c v → h₁.IsCell c v := fun x c _ v z => z.keeps hk
  have fresh : ∀ a, s.heap.objs.size ≤ a → H a = none := fun a ha => I.hok.fresh ha
  have cne : ∀ x c, X.env.cells.lookup x = some c → c < s.heap.objs.size := fun x c e => by obtain ⟨v, z⟩ := I.cell x c e; exact z.lt
  refine ⟨⟨I.ok.mod, S.kind, I.ok.glob, I.ok.blt, hC, ?_, ?_, ?_, I.ok.hd, I.ok.frames, .inl rfl, ?_, I.bs, Nat.le_trans I.ok.bsz I.sz, ?_, ?_, I.stack, I.stkFree⟩, rfl, I.bare, Un.laid hk hD (fresh D hD), ⟨m, hns, ?_⟩, ?_, ?_, ?_, ?_, ?_, ?_⟩
  · intro x y c h1 h2
    exact I.ok.inj x y c (back x c h1) (back y c h2)
  · intro x hx
    have hx' : (relabel scope X.env).names.lookup x = some .cell ∨ (relabel scope X.env).names.lookup x = some .free := hx
    have fr : scope.names.lookup x = some .free := by
      rcases hx' with hx' | hx'
      · obtain ⟨k', e, q⟩ := relabel_kind hx'
        rcases q with q | q
        · rw [q] at e; exact absurd rfl (S.cell _ (mem_of_lookup' e))
        · rw [q.1] at e; exact e
      · obtain ⟨k', e, q⟩ := relabel_kind hx'
        rcases q with q | q
        · rw [q] at e; exact e
        · cases q.2
    exact closL_has _ _ (mem_of_lookup' fr)
  · intro x c h
    exact Bool.noConfusion h
  · intro b hb
    obtain ⟨o, ho⟩ := hfo b hb
    refine ⟨Nat.ne_of_lt (Nat.lt_of_lt_of_le (hlt b o ho) hC), fun x c e => (hf b hb).2.2.2.2.1 x c (back x c e)⟩
  · intro b o e hb
    rcases (hf b hb).2.2.2.1 with z | z
    · exact I.ok.noex b o e z
    · exact absurd (Nat.lt_of_lt_of_le (Heap.lt_size e) (Nat.le_trans I.ok.bsz z)) (Nat.lt_irrefl _)
  · intro b hb z
    rcases List.mem_cons.mp (I.stkSub b z) with e | e
    · exact (hf b hb).2.1 e
    · exact (hf b hb).2.2.1 e
  · intro i y v h1 h2 h3
    have h2' : (compSt js σ)[i]? = some (some v) := h2
    unfold compSt at h2'
    rw [List.getElem?_map] at h2'
    cases hj : js[i]? with
    | none => rw [hj] at h2'; cases h2'
    | some o =>
      rw [hj] at h2'
      cases o with
      | none => simp at h2'
      | some j =>
        obtain ⟨y', e1, e2, e3⟩ := S.at' i j hj
        have e1' : N'[i]? = some y := h1
        rw [e1'] at e1
        cases e1
        have hσ : σ[j]? = some (some v) := by
          simp only [Option.map_some, Option.bind_some, Option.some.injEq] at h2'
          cases q : σ[j]? with
          | none => rw [q] at h2'; cases h2'
          | some o => rw [q] at h2'; simp only [Option.bind_some] at h2'; rw [h2']
        have kx := S.free (y, .free) (mem_of_lookup' e3) rfl
        obtain ⟨m0, _, hl0⟩ := I.loc
        have vis : Vis X.env.scope y := .inr kx
        obtain ⟨u, r, l⟩ := hl0 j y v e2 hσ vis
        refine ⟨u, r, .inr ?_⟩
        have nl : ¬ X.env.kindOf y = some .local := fun z => by
          rcases kx with kx | kx
          · have kx' : X.env.kindOf y = some .cell := kx
            rw [kx'] at z; cases z
          · have kx' : X.env.kindOf y = some .free := kx
            rw [kx'] at z; cases z
        rcases l with ⟨k, _⟩ | ⟨_, c, e, z⟩
        · exact absurd k nl
        · obtain ⟨c', q⟩ := closL_has (env := X.env) scope.names [] (mem_of_lookup' e3)
          have q2 := back y c' q
          rw [e] at q2
          cases q2
          refine ⟨?_, c, q, z.keeps hk⟩
          rcases h3 with h3 | h3
          · exfalso
            obtain ⟨k', e4, q4⟩ := relabel_kind (show (relabel scope X.env).names.lookup y = some .local from h3)
            rw [e3] at e4
            cases e4
            rcases q4 with q4 | q4
            · cases q4
            · cases q4.2
          · exact h3
  · intro x c h
    obtain ⟨v, z⟩ := I.cell x c (back x c h)
    exact ⟨v, z.keeps hk⟩
  · show upd H D (.lst []) C = none
    rw [upd_ne (Ne.symm hDC)]
    exact fresh C hC
  · intro x c h
    have q := back x c h
    show upd H D (.lst []) c = none
    rw [upd_ne (Nat.ne_of_lt (Nat.lt_of_lt_of_le (cne x c q) hD))]
    exact I.freeC x c q
  · intro p hp
    exact absurd (show p ∈ ([] : List (Addr × Obj)) from hp) (by simp)
  · exact I.hok.laid hk hD ⟨Nat.zero_le _, [], 0, .nil, hl⟩
  · show (compSt js σ).length = N'.length
    unfold compSt
    rw [List.length_map]
    exact S.len
theorem pe_comp (S : CompOk X scope N' js) (hc : X.calm = true) (hi : PI X tg iter wi) (hg : ∀ C s H fp, PG (compCx X scope N' C s H fp) tg g) (ht : ∀ C s H fp, PIfs (compCx X scope N' C s H fp) ifs tt) (he : ∀ C s H fp, PE (compCx X scope N' C s H fp) elt te)
    (hs : ∀ x, foldedSetIterable iter X.env x = pure x := by intro _; rfl) : PE X (.ListComp elt [⟨tg, iter, ifs, 0⟩] scope pos) (tComp wi js g tt te) := by
  intro pins s σ H Q I h
  rw [eval_ListComp]
  have has : ∀ y ∈ scope.names, y.2 = .free → ∃ c, X.env.cells.lookup y.1 = some c := fun y hy e => I.ok.has y.1 (S.free y hy e)
  refine wpAny_comprehension_free (use := none) rfl hs (closureFor_eq has) S.kind S.names (thn (hi pins s σ H _ I h) fun v s1 h1 => thn h1 fun itv s2 h2 => ?_)
  obtain ⟨it, fp, tn, J, H2, e, I2, T, st2, f2, q2⟩ := h2
  subst e
  refine wpAny_newObj_type (wpAny_newFunctionEnv S.cell (by intro y hy; simp at hy) (fun h₁ hns₁ hsb₁ => ?_) S.kind)
  dsimp only at hns₁ hsb₁ ⊢
  generalize hH2 : s2.heap.push { cls := .type "list", dict := none, data := .seq ([] : List Value).toArray } = P2 at hns₁ hsb₁ ⊢
  have hC : P2.objs.size = s2.heap.objs.size + 1 := by rw [← hH2, Heap.size_push]
  have hDC : s2.heap.objs.size ≠ P2.objs.size := by rw [hC]; exact Nat.ne_of_lt (Nat.lt_succ_self _)
  have hCle : s2.heap.objs.size ≤ P2.objs.size := by rw [hC]; exact Nat.le_succ _
  have old : ∀ b o, s2.heap.get? b = some o → h₁.get? b = some o := fun b o e => hsb₁.extBut b o (by rw [hC]; exact Nat.ne_of_lt (Nat.lt_succ_of_lt (Heap.lt_size e))) (Heap.get?_push_of_some _ (hH2 ▸ Heap.get?_push_of_some _ e))
  have hacc : h₁.get? s2.heap.objs.size = some { cls := .type "list", data := .seq #[] 0 } := hsb₁.extBut _ _ hDC (Heap.get?_push_of_some _ (hH2 ▸ Heap.get?_push_size _ rfl))
  have hfo : ∀ b ∈ fp, ∃ o, s2.heap.get? b = some o := fun b hb => let ⟨o, e, _⟩ := T.obj _ _ st2 b hb; ⟨o, e⟩
  have hfresh : H2 s2.heap.objs.size = none := I2.hok.fresh (Nat.le_refl _)
  obtain ⟨W, ⟨m0, w0⟩, turn⟩ := q2 s2.heap.objs.size hfresh
  have IS : ∀ tk, Inv (compCx X scope N' P2.objs.size s2 H2 fp) [] (compSt js σ) (upd H2 s2.heap.objs.size (.lst [])) { s2 with heap := h₁, toks := tk } := fun tk => comp_start S I2 f2 hfo (Nat.le_refl _) hCle hDC hns₁ old hacc
  have fpC : ∀ {H' : Hp}, (∀ b ∈ fp, H' b = none) → ∀ b ∈ fp, FpOk (compCx X scope N' P2.objs.size s2 H2 fp) [] H' b := fun {H'} hn b hb => by
    obtain ⟨o, ho⟩ := hfo b hb
    refine ⟨hn b hb, Nat.ne_of_lt (Nat.lt_of_lt_of_le (Heap.lt_size ho) hCle), fun z => ?_, .inl hb, fun x c e => ?_, fun p hp => absurd (show p ∈ ([] : List (Addr × Obj)) from hp) (by simp)⟩
    · rcases List.mem_cons.mp (I2.stkSub b z) with e | e
      · exact (f2 b hb).2.1 e
      · exact (f2 b hb).2.2.1 e
    · exact (f2 b hb).2.2.2.2.1 x c (closL_of scope.names [] x c has (fun _ _ z => by simp at z) e)
  have start0 : ∀ b ∈ fp, upd H2 s2.heap.objs.size (.lst []) b = none := fun b hb => by
    obtain ⟨o, ho⟩ := hfo b hb
    rw [upd_ne (Nat.ne_of_lt (Heap.lt_size ho))]
    exact (f2 b hb).1
  have loop : ∀ s₃ : Shared, s₃ = { s2 with heap := h₁, toks := s2.toks + ([] : List (Str × Value)).length } →
      codeAny (model X.prog X.w) X.A (.compLoop (.ListComp elt [⟨tg, iter, ifs, 0⟩] scope pos) 0 (.ref it) (.ref s2.heap.objs.size) (compEnvC scope (closL X.env scope.names []) P2.objs.size X.env))
        (compPost (model X.prog X.w) X.A X.xe none (EP X pins σ Q) (.ref s2.heap.objs.size) P2.objs.size) s₃ := by
    rintro s₃ rfl
    refine codeAny_compLoop_gen (fun n s' => ∃ i τ ys H', Inv (compCx X scope N' P2.objs.size s2 H2 fp) [] τ H' s' ∧ tn i s'.heap ∧ (∀ b ∈ fp, H' b = none) ∧ W i n τ ys H') ?_ m0
      ⟨0, _, [], _, IS _, T.keep _ _ _ st2 fun b _ o e => old b o e, start0, w0⟩
    rintro n s3 ⟨i, τ, ys, H3, I3, st3, fr3, w3⟩
    obtain ⟨hD3, cases3⟩ := turn i n τ ys H3 w3
    rcases cases3 with ⟨stop, qn⟩ | ⟨go, hz, step⟩
    · refine thn (T.done (compCx X scope N' P2.objs.size s2 H2 fp) rfl rfl rfl hc i [] s3 τ H3 _ I3 (fpC fr3) st3 stop) fun r s4 ⟨hr, I4⟩ => ?_
      subst hr
      obtain ⟨m4, hn4, _⟩ := id I4.loc
      refine ⟨m4, hn4, fun h' hs' => ?_⟩
      have un : Un (frs X.stack) fp H2 H3 s2.heap h' := by
        have u := I4.base
        have ne : ∀ b o, s2.heap.get? b = some o → b ≠ P2.objs.size := fun b o e => Nat.ne_of_lt (Nat.lt_of_lt_of_le (Heap.lt_size e) hCle)
        refine ⟨fun b o e n hb hx => hs'.extBut b o (ne b o e) (u.keep b o e n hb hx), fun b o e n hb hx => ?_, u.free, fun b o e hx => ?_, u.tups, u.frzs, u.tbls⟩
        · obtain ⟨sl, q⟩ := u.slot b o e n hb hx
          exact ⟨sl, hs'.extBut b _ (ne b o e) q⟩
        · obtain ⟨o', q⟩ := u.there b o e hx
          exact ⟨o', hs'.extBut b _ (ne b o e) q⟩
      have hCn : H3 P2.objs.size = none := I4.free
      have hok : HOk X.prog X.w H3 h' := fun b ob e => by
        refine (I4.hok b ob e).stay (fun c w' hc' q => hs'.extBut c w' ?_ q) (fun _ q => q) fun _ _ q => q
        rintro rfl
        rcases hc' with rfl | hc'
        · rw [hCn] at e; cases e
        · rw [hCn] at hc'; cases hc'
      obtain ⟨hh, gg, dd, tt', os'⟩ := s4
      obtain rfl : os' = s2.os := I4.os
      refine ⟨.ref s2.heap.objs.size, H3, Inv.call (s := s2) I2 (h' := h') (g' := gg) (d' := dd) (t' := tt') (ch := fp) un hok I4.bare (fun b hb => ?_), rfl, qn⟩
      exact ⟨(f2 b hb).2.2.2.1, (f2 b hb).2.1, (f2 b hb).2.2.2.2.1, (f2 b hb).2.2.2.2.2⟩
    · refine thn (T.item (compCx X scope N' P2.objs.size s2 H2 fp) rfl rfl rfl hc i [] s3 τ H3 _ I3 (fpC fr3) st3 go) fun r s4 ⟨u, hr, h4⟩ => ?_
      subst hr
      refine thn h4 fun _ s5 ⟨x, H5, I5, r5, y5, st5, fr5⟩ => ?_
      have I5' := I5.pinned (fpC fr5) (T.obj _ _ st5)
      have keepT : ∀ {τ7 : St} {H7 : Hp} {s7 : Shared}, Inv (compCx X scope N' P2.objs.size s2 H2 fp) ([] ++ pinsAt fp s5.heap) τ7 H7 s7 → Inv (compCx X scope N' P2.objs.size s2 H2 fp) [] τ7 H7 s7 ∧ tn (i + 1) s7.heap ∧ (∀ b ∈ fp, H7 b = none) := fun {τ7 H7 s7} I7 => by
        refine ⟨I7.unpinned, T.keep _ _ _ st5 fun b hb o e => (I7.pin (b, o) (List.mem_append_right _ (List.mem_append_right _ (mem_pinsAt hb e)))).1, fun b hb => ?_⟩
        obtain ⟨o, e, d⟩ := T.obj _ _ st5 b hb
        exact (I7.pin (b, o) (List.mem_append_right _ (List.mem_append_right _ (mem_pinsAt hb e)))).2.1
      refine thn (hg _ _ _ _ _ s5 τ H5 x u _ I5' r5 (step x H5 y5)) fun _ s6 ⟨τ6, H6, I6, q6⟩ => ?_
      refine thn (ht _ _ _ _ _ s6 τ6 H6 _ I6 q6) fun ok s7 ⟨H7, I7, q7⟩ => ?_
      cases ok with
      | false =>
        obtain ⟨m', hm, w7⟩ := (by simpa using q7 : ∃ m', m' < n ∧ W (i + 1) m' τ6 ys H7)
        obtain ⟨a, b, c⟩ := keepT I7
        exact ⟨m', hm, i + 1, τ6, ys, H7, a, b, c, w7⟩
      | true =>
        rw [if_pos rfl]
        rw [if_pos rfl] at q7
        refine thn (he _ _ _ _ _ s7 τ6 H7 _ I7 q7) fun y s8 ⟨yv, H8, I8, r8, hD8, m', hm, w8⟩ => ?_
        refine thn (mt_append _ s8 τ6 H8 (.ref s2.heap.objs.size) [yv] (.ref s2.heap.objs.size) [y] (fun _ H9 => H9 = upd H8 s2.heap.objs.size (.lst (ys ++ [yv]))) I8 rfl (.cons r8 .nil) ⟨_, ys, yv, rfl, rfl, hD8, hz, rfl⟩) fun _ s9 ⟨_, H9, I9, _, e9⟩ => ?_
        subst e9
        obtain ⟨a, b, c⟩ := keepT I9
        exact ⟨m', hm, i + 1, τ6, ys ++ [yv], _, a, b, c, w8⟩
  exact codeAny_compStart_list (loop _ rfl) (T.self X.A 0 _ _ _ (T.keep _ _ _ st2 fun b _ o e => old b o e) (loop _ rfl))
end
end L2
namespace L2
open PySem PySem.Spec PyProof.Rows
section
variable {X : Cx}
def rEqL (K : PySem.W.Frag) (neg : Bool) : R2 := fun x y H Q => ∃ (a b : Addr) (ns ms : List Int), x = .ref a ∧ y = .ref b ∧ SqL K H a (ns.map V.int) ∧ SqL K H b (ms.map V.int) ∧ Q (.bl (if neg then !decide (ns = ms) else decide (ns = ms))) H
theorem op_eqL (hu : X.A.units + 64 < cLine) : OpR X (compareOp .Eq) (rEqL X.K false) := by
  intro pins s σ H x y v u Q I rx ry h
  obtain ⟨a, b, ns, ms, rfl, rfl, h1, h2, q⟩ := h
  cases rx
  cases ry
  obtain ⟨its, r1, p1, _⟩ := I.list h1
  obtain ⟨its2, r2, p2, _⟩ := I.list h2
  exact PySem.W.ke_eq_ints p1.isList p2.isList (intsAre_of r1) (intsAre_of r2) hu ⟨.bl _, H, I, rfl, q⟩
theorem pe_type {T : String} {x : Str} {pos : Pos} (hm : X.mg x = none) (hv : bootBuiltins x = some (.type T)) (hg : Gl X x := by rfl) (hn : x ≠ "__name__" := by decide) (hd : (x == ("__debug__" : Str)) = false := by decide) : PE X (.Name x pos) (tC (.ty T)) :=
  pe_bltn hg hm hv rfl hn hd
end
end L2
namespace L2
open PySem PySem.Spec PyProof.Rows
theorem bt_len : bootBuiltins "len" = some (.builtin "len") := by decide +kernel
theorem bt_max : bootBuiltins "max" = some (.builtin "max") := by decide +kernel
theorem bt_isinstance : bootBuiltins "isinstance" = some (.builtin "isinstance") := by decide +kernel
theorem bt_int : bootBuiltins "int" = some (.type "int") := by decide +kernel
theorem bt_list : bootBuiltins "list" = some (.type "list") := by decide +kernel
theorem bt_tuple : bootBuiltins "tuple" = some (.type "tuple") := by decide +kernel
section
variable {X : Cx}
theorem op_eqI : OpR X (compareOp .Eq) (rI0 fun i j => .bl (decide (i = j))) := opB0 fun _ _ _ _ _ _ _ q => eq_int (by rw [Bool.beq_eq_decide_eq]; exact q)
theorem op_neI : OpR X (compareOp .NotEq) (rI0 fun i j => .bl (!decide (i = j))) := opB0 fun _ _ _ _ _ _ _ q => ne_int (by rw [bne, Bool.beq_eq_decide_eq]; exact q)
end
structure Df (K : PySem.W.Frag) (mg : Str → Option Value) (x : Str) (f : Addr) (fd : FuncData) (ps : List Str) : Prop where
  m : mg x = some (.ref f)
  k : PySem.W.keepIn K (.ref f) = true
  b : Binds K fd ps []
theorem pcall {X : Cx} {k : Nat} {f : Addr} {fd : FuncData} {ps : List Str} {sp : Sp} {x : Str} {p pos : Pos} {e : Expr} {es : List Expr} {t : TA} (D : Df X.K X.mg x f fd ps) (G : FnOk X.prog X.w X.K X.mg X.base CX0 k f fd ps sp) (hr : Room k X.A)
    (ha : PA X (e :: es) t) (hg : Gl X x := by rfl) (hdb : (x == ("__debug__" : Str)) = false := by decide) (he : starEach (e :: es) X.env = (false, eval e X.env) :: starEach es X.env := by rfl) (hpl : (backTo pos (starEach es X.env)).any (·.1) = false := by rfl) :
    PE X (.Call (.Name x p) (e :: es) [] pos) (tCall sp [] E0 t) := pe_call G hr hg D.m D.k D.b .nil pass0 ha hdb he hpl
theorem same_new {H : Hp} {p : Addr} (h : H p = none) (o : HO) : Same H (upd H p o) := fun b u q => by rw [upd_ne (ne_of_none q h)]; exact q
end L2
namespace L2
open PySem PySem.Spec PyProof.Rows
theorem Same.upd {H1 H : Hp} {D : Addr} (h : Same H1 H) (hD : H1 D = none) (o : HO) : Same H1 (upd H D o) := fun b u q => by
  rw [upd_ne (ne_of_none q hD)]
  exact h b u q
theorem comp_by {J : It} {g : TG} {tt : TT} {te : TE} {τ0 : St} {H1 : Hp} {D : Addr} {Q : VK} {xs : List V} (hD : H1 D = none) (hz : xs.length ≤ sizeLine) (step : V → St) (p : V → Bool) (F : V → V → Prop)
    (hgo : ∀ i x H, xs[i]? = some x → Same H1 H → J.go i H) (hy : ∀ i H x H2, Same H1 H → i < xs.length → J.yld i H x H2 → H2 = H ∧ xs[i]? = some x) (hst : ∀ H, Same H1 H → J.stop xs.length H)
    (hg : ∀ x τ H R, x ∈ xs → Same H1 H → (τ = τ0 ∨ ∃ x', τ = step x') → R (step x) H → g x τ H R)
    (ht : ∀ x H R, x ∈ xs → Same H1 H → (∀ H4, Same H H4 → R (p x) H4) → tt (step x) H R)
    (he : ∀ x H R, x ∈ xs → p x = true → Same H1 H → (∀ y H4, Same H H4 → F x y → R y H4) → te (step x) H R)
    (done : ∀ ys H, Paired F (xs.filter p) ys → Same H1 H → H D = some (.lst ys) → Q (.ref D) H) :
    ∃ W : Nat → Nat → St → List V → Hp → Prop, (∃ m, W 0 m τ0 [] (upd H1 D (.lst []))) ∧ ∀ i m τ ys H', W i m τ ys H' →
      H' D = some (.lst ys) ∧ ((J.stop i H' ∧ At Q (.ref D) H') ∨ (J.go i H' ∧ ys.length < sizeLine ∧ ∀ x H2, J.yld i H' x H2 → g x τ H2 fun τ2 H3 => tt τ2 H3 fun ok H4 =>
        if ok = true then te τ2 H4 fun y H5 => H5 D = some (.lst ys) ∧ ∃ m', m' < m ∧ W (i + 1) m' τ2 (ys ++ [y]) (L2.upd H5 D (.lst (ys ++ [y]))) else ∃ m', m' < m ∧ W (i + 1) m' τ2 ys H4)) := by
  refine ⟨fun i m τ ys H => i ≤ xs.length ∧ m = xs.length - i ∧ (τ = τ0 ∨ ∃ x, τ = step x) ∧ Paired F ((xs.take i).filter p) ys ∧ Same H1 H ∧ H D = some (.lst ys),
    ⟨xs.length, Nat.zero_le _, by simp, .inl rfl, by simpa using Paired.nil, (Same.refl H1).upd hD _, upd_same⟩, ?_⟩
  rintro i m τ ys H ⟨hi, rfl, hτ, hF, hS, hDy⟩
  refine ⟨hDy, ?_⟩
  by_cases hlt : i < xs.length
  · have hl : ys.length < sizeLine := by
      have e1 := hF.length
      have e2 : ((xs.take i).filter p).length ≤ (xs.take i).length := List.length_filter_le _ _
      have e3 : (xs.take i).length ≤ i := by rw [List.length_take]; exact Nat.min_le_left _ _
      omega
    refine .inr ⟨hgo i xs[i] H (by simp [hlt]) hS, hl, fun x H2 y => ?_⟩
    obtain ⟨rfl, hx⟩ := hy i H x H2 hS hlt y
    have hm : x ∈ xs := List.mem_of_getElem? hx
    have etk : xs.take (i + 1) = xs.take i ++ [x] := by
      rw [List.take_succ, hx]
      rfl
    refine hg x τ _ _ hm hS hτ (ht x _ _ hm hS fun H4 s4 => ?_)
    cases hp : p x with
    | false =>
      rw [if_neg Bool.false_ne_true]
      refine ⟨xs.length - (i + 1), by omega, hlt, rfl, .inr ⟨x, rfl⟩, ?_, hS.trans s4, s4 _ _ hDy⟩
      rw [etk, List.filter_append]
      simpa [hp] using hF
    | true =>
      rw [if_pos rfl]
      refine he x H4 _ hm hp (hS.trans s4) fun y H5 s5 f => ⟨s5 _ _ (s4 _ _ hDy), xs.length - (i + 1), by omega, hlt, rfl, .inr ⟨x, rfl⟩, ?_, ((hS.trans s4).trans s5).upd hD _, upd_same⟩
      rw [etk, List.filter_append]
      simpa [hp] using Paired.snoc hF f
  · have e : i = xs.length := by omega
    subst e
    refine .inl ⟨hst H hS, done ys H ?_ hS hDy⟩
    simpa using hF
theorem itl_go {K : PySem.W.Frag} {a : Addr} {xs : List V} {H1 : Hp} (ha : SqL K H1 a xs) : (∀ i x H, xs[i]? = some x → Same H1 H → (Itl K a).go i H) ∧ (∀ i H x H2, Same H1 H → i < xs.length → (Itl K a).yld i H x H2 → H2 = H ∧ xs[i]? = some x) ∧ (∀ H, Same H1 H → (Itl K a).stop xs.length H) :=
  ⟨fun i x H e s => ⟨xs, x, s.seq ha, e⟩, fun i H x H2 s _ y => ⟨y.1, y.2 xs (s.seq ha)⟩, fun H s => ⟨xs, s.seq ha, Nat.le_refl _⟩⟩
def rangeV (lo : Int) (n : Nat) : List V := (List.range n).map fun (i : Nat) => V.int (lo + (i : Int))
theorem rangeV_length (lo : Int) (n : Nat) : (rangeV lo n).length = n := by simp [rangeV]
theorem rangeV_get (lo : Int) (n i : Nat) (h : i < n) : (rangeV lo n)[i]? = some (.int (lo + i)) := by simp [rangeV, h]
theorem rangeV_mem {lo : Int} {n : Nat} {x : V} (h : x ∈ rangeV lo n) : ∃ i : Nat, i < n ∧ x = .int (lo + i) := by
  simp only [rangeV, List.mem_map, List.mem_range] at h
  obtain ⟨i, hi, e⟩ := h
  exact ⟨i, hi, e.symm⟩
theorem itr_go {lo : Int} {n : Nat} {H1 : Hp} : (∀ i x H, (rangeV lo n)[i]? = some x → Same H1 H → (Itr lo n).go i H) ∧ (∀ i H x H2, Same H1 H → i < (rangeV lo n).length → (Itr lo n).yld i H x H2 → H2 = H ∧ (rangeV lo n)[i]? = some x) ∧ (∀ H, Same H1 H → (Itr lo n).stop (rangeV lo n).length H) := by
  refine ⟨fun i x H e s => ?_, fun i H x H2 s h y => ?_, fun H s => ?_⟩
  · have := (List.getElem?_eq_some_iff.mp e).1
    rw [rangeV_length] at this
    exact this
  · rw [rangeV_length] at h
    obtain ⟨e1, e2⟩ := y
    exact ⟨e1, by rw [rangeV_get lo n i h, e2]⟩
  · show n ≤ (rangeV lo n).length
    rw [rangeV_length]
    exact Nat.le_refl _
theorem gName_step {τ0 : St} (x : V) (τ : St) (H : Hp) (R : St → Hp → Prop) (h : τ = τ0 ∨ ∃ x' : V, τ = τ0.set 0 (some x')) (q : R (τ0.set 0 (some x)) H) : gName 0 x τ H R := by
  show R (τ.set 0 (some x)) H
  rcases h with rfl | ⟨x', rfl⟩
  · exact q
  · rw [List.set_set]
    exact q
end L2
namespace L2
open PySem PySem.Spec PyProof.Rows
def tCut (t u : TS) : TS := fun D σ H => ∃ R : St → Hp → Prop, t { D with nx := R } σ H ∧ ∀ σ' H', R σ' H' → u D σ' H'
theorem pss_cut {X : Cx} {st : Stmt} {rest : List Stmt} {t u : TS} (h1 : PS X st t) (h2 : PSs X rest u) : PSs X (st :: rest) (tCut t u) := by
  intro pins s σ H D I h
  obtain ⟨R, q1, q2⟩ := h
  refine wpAny_execs_cons (thn (h1 pins s σ H { D with nx := R } I q1) fun f s1 q => ?_)
  cases f with
  | next =>
    obtain ⟨σ', H', I', q⟩ := q
    exact h2 pins s1 σ' H' D I' (q2 σ' H' q)
  | ret v => exact q
  | brk => exact q
  | cont => exact q
def Wn (Pv : St → Hp → Prop) (μ : St → Hp → Nat) (m : Nat) : St → Hp → Prop := fun σ' H' => Pv σ' H' ∧ μ σ' H' < m
theorem wn_ok {Pv : St → Hp → Prop} {μ : St → Hp → Nat} {m : Nat} : ∀ σ' H', Wn Pv μ m σ' H' → ∃ m', m' < m ∧ m' = μ σ' H' ∧ Pv σ' H' := fun _ _ z => ⟨_, z.2, rfl, z.1⟩
theorem while_on {c : TT} {tb : TS} {D : Ends} {σ : St} {H : Hp} (Pv : St → Hp → Prop) (μ : St → Hp → Nat) (h0 : Pv σ H)
    (hs : ∀ σ H, Pv σ H → c σ H fun b H1 => if b = true then ∃ N : St → Hp → Prop, (∀ σ' H', N σ' H' → ∃ m', m' < μ σ H ∧ m' = μ σ' H' ∧ Pv σ' H') ∧ tb { D with nx := N, ct := N, bk := D.nx } σ H1 else D.nx σ H1) : tWhile c tb D σ H := by
  refine ⟨fun m σ H => m = μ σ H ∧ Pv σ H, ⟨_, rfl, h0⟩, ?_⟩
  rintro m σ H ⟨rfl, p⟩
  exact hs σ H p
end L2
namespace L2
open PySem PySem.Spec PyProof.Rows
theorem comp_all {J : It} {te : TE} {τ0 : St} {H1 : Hp} {D : Addr} {Q : VK} {xs : List V} (hD : H1 D = none) (hz : xs.length ≤ sizeLine) (F : V → V → Prop)
    (hj : (∀ i x H, xs[i]? = some x → Same H1 H → J.go i H) ∧ (∀ i H x H2, Same H1 H → i < xs.length → J.yld i H x H2 → H2 = H ∧ xs[i]? = some x) ∧ (∀ H, Same H1 H → J.stop xs.length H))
    (he : ∀ x H R, x ∈ xs → Same H1 H → (∀ y H4, Same H H4 → F x y → R y H4) → te (τ0.set 0 (some x)) H R)
    (done : ∀ ys H, Paired F xs ys → Same H1 H → H D = some (.lst ys) → Q (.ref D) H) :
    ∃ W : Nat → Nat → St → List V → Hp → Prop, (∃ m, W 0 m τ0 [] (upd H1 D (.lst []))) ∧ ∀ i m τ ys H', W i m τ ys H' →
      H' D = some (.lst ys) ∧ ((J.stop i H' ∧ At Q (.ref D) H') ∨ (J.go i H' ∧ ys.length < sizeLine ∧ ∀ x H2, J.yld i H' x H2 → gName 0 x τ H2 fun τ2 H3 => tYes τ2 H3 fun ok H4 =>
        if ok = true then te τ2 H4 fun y H5 => H5 D = some (.lst ys) ∧ ∃ m', m' < m ∧ W (i + 1) m' τ2 (ys ++ [y]) (L2.upd H5 D (.lst (ys ++ [y]))) else ∃ m', m' < m ∧ W (i + 1) m' τ2 ys H4)) :=
  comp_by hD hz (fun x => τ0.set 0 (some x)) (fun _ => true) F hj.1 hj.2.1 hj.2.2 (fun x τ H R _ _ h q => gName_step x τ H R h q) (fun x H R _ _ h => h H (Same.refl H)) (fun x H R hx _ s h => he x H R hx s h)
    (fun ys H p s e => done ys H (by rw [List.filter_eq_self.mpr (by intro a _; rfl)] at p; exact p) s e)
theorem Paired.map_eq {α β γ : Type} {F : β → γ → Prop} {g : α → β} {h : α → γ} : ∀ {xs : List α} {ys : List γ}, Paired F (xs.map g) ys → (∀ x ∈ xs, ∀ y, F (g x) y → y = h x) → ys = xs.map h
  | [], _, .nil, _ => rfl
  | x :: r, _, .cons f t, k => by
    rw [List.map_cons, k x List.mem_cons_self _ f, Paired.map_eq t fun z hz => k z (List.mem_cons_of_mem _ hz)]
theorem Paired.all_right {β γ : Type} {F : β → γ → Prop} : ∀ {xs : List β} {ys : List γ}, Paired F xs ys → ∀ y ∈ ys, ∃ x ∈ xs, F x y
  | _, _, .nil, _, h => nomatch h
  | _, _, .cons f t, y, h => by
    rcases List.mem_cons.mp h with rfl | h
    · exact ⟨_, List.mem_cons_self, f⟩
    · obtain ⟨x, hx, q⟩ := Paired.all_right t y h
      exact ⟨x, List.mem_cons_of_mem _ hx, q⟩
theorem ints_of_all {p : Int → Prop} : ∀ {ys : List V}, (∀ y ∈ ys, ∃ i, y = .int i ∧ p i) → ∃ ns : List Int, ys = ns.map V.int ∧ ∀ i ∈ ns, p i
  | [], _ => ⟨[], rfl, fun _ h => nomatch h⟩
  | y :: r, h => by
    obtain ⟨i, e, q⟩ := h y List.mem_cons_self
    obtain ⟨ns, e2, q2⟩ := ints_of_all (ys := r) fun z hz => h z (List.mem_cons_of_mem _ hz)
    refine ⟨i :: ns, by rw [e, e2]; rfl, fun j hj => ?_⟩
    rcases List.mem_cons.mp hj with rfl | hj
    · exact q
    · exact q2 j hj
end L2
namespace L2
open PySem PySem.Spec PyProof.Rows
end L2
namespace L2
open PySem PySem.Spec PyProof.Rows
def cInts : List (Int × Nat × Pos) → List Expr
  | [] => []
  | (i, j, p) :: r => .Constant (.int i) j p :: cInts r
def vInts : List (Int × Nat × Pos) → List V
  | [] => []
  | (i, _, _) :: r => .int i :: vInts r
theorem pa_ints {X : Cx} : ∀ l : List (Int × Nat × Pos), PA X (cInts l) (fun _ H Q => Q (vInts l) H)
  | [] => pa_nil
  | (i, j, p) :: r => pa_cons (pe_int (X := X) (i := i) (j := j) (pos := p)) (pa_ints r)
end L2
namespace L2
open PySem PySem.Spec PyProof.Rows
def Itv (K : PySem.W.Frag) (a : Addr) (n : Nat) : It :=
  ⟨fun i H => i < n ∧ ∃ xs x, SqL K H a xs ∧ xs.length = n ∧ xs[n - 1 - i]? = some x, fun i H x H' => H' = H ∧ ∀ xs, SqL K H a xs → xs[n - 1 - i]? = some x, fun i _ => n = i⟩
theorem turn_rev {P : Program} {w : World} {K : PySem.W.Frag} {tg : Expr} (a it : Addr) (n : Nat) : Turn P w K tg (Itv K a n) [it] it (fun i h => h.IsRevIter it a ((n : Int) - 1 - (i : Int))) where
  mem := by simp
  obj := fun i h st b hb => by
    have e : b = it := by simpa using hb
    subst e
    obtain ⟨o, e, c, d⟩ := st
    exact ⟨o, e, fun v z => by rw [d] at z; cases z⟩
  keep := fun i h h' st k => st.at fun o e => k it (by simp) o e
  item := by
    intro X hP hw hK hc i pins s σ H E I hf st hg
    subst hP hw hK
    obtain ⟨hi, xs, x, hq, hn, hx⟩ := hg
    obtain ⟨its, rv, p, hz⟩ := I.list hq
    obtain ⟨u, hu, ru⟩ := rv.get hx
    obtain ⟨f0, f1, f2, f3, f4, f5⟩ := hf it (by simp)
    have e1 : (n : Int) - 1 - (i : Int) = ((n - 1 - i : Nat) : Int) := by omega
    have e2 : (n : Int) - 1 - ((i + 1 : Nat) : Int) = ((n - 1 - i : Nat) : Int) - 1 := by omega
    rw [e1] at st
    refine wpAny_pyNext_rev_item st p.isList (x := u) (by simpa using hu) fun h' st' sb => ?_
    have I1 : Inv X pins σ H { s with heap := h' } := I.turned (t' := s.toks) (fun b o hb e => (sb.2 b hb).trans e) f0 f1 f3 f4 f5
    obtain ⟨o, e, c, d⟩ := id st'
    exact ⟨u, rfl, go_of (s := { s with heap := h' }) e c d (by decide) ⟨x, H, I1, ru, ⟨rfl, fun ys hy => by rw [I.list_inj hy hq]; exact hx⟩, (by rw [e2]; exact st'), fun b hb => (hf b hb).1⟩⟩
  done := by
    intro X hP hw hK hc i pins s σ H E I hf st hg
    subst hP hw hK
    obtain ⟨f0, f1, f2, f3, f4, f5⟩ := hf it (by simp)
    have hg' : n = i := hg
    rw [show (n : Int) - 1 - (i : Int) = -1 by omega] at st
    exact wpAny_pyNext_rev_end (I.ok.hd hc) st fun h' eb => ⟨rfl, I.turned (t' := s.toks) (fun b o hb e => eb b o hb e) f0 f1 f3 f4 f5⟩
  self := fun _ _ _ _ _ st h => wpAny_pyIter_revIter st h
theorem bt_reversed : bootBuiltins "reversed" = some (.type "reversed") := by decide +kernel
theorem bt_enumerate : bootBuiltins "enumerate" = some (.type "enumerate") := by decide +kernel
section
variable {X : Cx} {tg : Expr}
def iRev (K : PySem.W.Frag) (ta : TA) : TI := fun σ H R => ta σ H fun vs H1 => ∃ (a : Addr) (xs : List V), vs = [.ref a] ∧ SqL K H1 a xs ∧ R (Itv K a xs.length) H1
theorem pi_reversed {a : Expr} {ta : TA} {p pos : Pos} (hg : Gl X "reversed") (hm : X.mg "reversed" = none) (ha : PA X [a] ta) (hs : starEach [a] X.env = [(false, eval a X.env)] := by rfl) : PI X tg (.Call (.Name "reversed" p) [a] [] pos) (iRev X.K ta) := by
  intro pins s σ H R I h
  refine Call_ (ld_blt I hg hm bt_reversed (PyProof.Rows.callWith_type1 (thn (ha pos pins s σ H _ I h) fun us s1 ⟨vs, H1, I1, r1, q1⟩ => ?_) hs rfl))
  obtain ⟨l, xs, e, hq, q⟩ := q1
  subst e
  cases r1 with
  | cons r rr =>
    cases rr
    cases r
    obtain ⟨its, rv, pl, hz⟩ := I1.list hq
    refine call_reversed_list pl.isList ?_
    have e0 : (its.toArray.size : Int) - 1 = (xs.length : Int) - 1 - ((0 : Nat) : Int) := by
      have := rv.length
      simp only [List.size_toArray]
      omega
    have hit : Heap.IsRevIter (s1.heap.push (revObj l ((its.toArray.size : Int) - 1))) s1.heap.objs.size l ((xs.length : Int) - 1 - ((0 : Nat) : Int)) := by
      rw [e0]
      exact ⟨_, Heap.get?_push_size _ rfl, rfl, rfl⟩
    refine wpAny_pyIter_revIter (s := { s1 with heap := s1.heap.push (revObj l ((its.toArray.size : Int) - 1)) }) hit ?_
    refine ⟨s1.heap.objs.size, [s1.heap.objs.size], _, _, H1, rfl, I1.kept (t' := s1.toks) fun b o e => Heap.get?_push_of_some _ e, turn_rev l _ xs.length, hit, fun b hb => ?_, q⟩
    have e : b = s1.heap.objs.size := by simpa using hb
    subst e
    exact I1.fpOk (Nat.le_refl _) (I1.hok.fresh (Nat.le_refl _))
end
theorem for_rev {K : PySem.W.Frag} {a : Addr} {xs : List V} {g : TG} {tb : TS} {D : Ends} {σ : St} {H : Hp} (Pv : Nat → St → Hp → Prop) (h0 : Pv 0 σ H) (hl : ∀ i σ H, i ≤ xs.length → Pv i σ H → SqL K H a xs)
    (hs : ∀ i x σ H, i < xs.length → xs[xs.length - 1 - i]? = some x → Pv i σ H → g x σ H fun σ2 H2 => tb { D with nx := Pv (i + 1), ct := Pv (i + 1), bk := D.nx } σ2 H2) (hd : ∀ σ H, Pv xs.length σ H → D.nx σ H) :
    ∃ W : Nat → Nat → St → Hp → Prop, (∃ m, W 0 m σ H) ∧ ∀ i m σ H, W i m σ H →
      ((Itv K a xs.length).stop i H ∧ D.nx σ H) ∨ ((Itv K a xs.length).go i H ∧ ∃ N : St → Hp → Prop, (∀ σ' H', N σ' H' → ∃ m', m' < m ∧ W (i + 1) m' σ' H') ∧ ∀ x H', (Itv K a xs.length).yld i H x H' → g x σ H' fun σ2 H2 => tb { D with nx := N, ct := N, bk := D.nx } σ2 H2) := by
  refine ⟨fun i m σ H => m = xs.length - i ∧ i ≤ xs.length ∧ Pv i σ H, ⟨xs.length, by simp, Nat.zero_le _, h0⟩, ?_⟩
  rintro i m σ H ⟨rfl, hi, p⟩
  have q := hl i σ H hi p
  by_cases hlt : i < xs.length
  · have hx : xs.length - 1 - i < xs.length := by omega
    refine .inr ⟨⟨hlt, xs, xs[xs.length - 1 - i], q, rfl, by simp [hx]⟩, Pv (i + 1), fun σ' H' p' => ⟨xs.length - (i + 1), by omega, rfl, hlt, p'⟩, fun x H' y => ?_⟩
    obtain ⟨e, y⟩ := y
    subst e
    exact hs i x σ _ hlt (y xs q) p
  · have e : i = xs.length := by omega
    subst e
    exact .inl ⟨rfl, hd σ H p⟩
def Ite (K : PySem.W.Frag) (a : Addr) : It :=
  ⟨fun i H => ∃ xs x, SqL K H a xs ∧ xs[i]? = some x, fun i H x H' => ∃ (t : Addr) (v : V), x = .ref t ∧ H t = none ∧ H' = upd H t (.tup [.int i, v]) ∧ ∀ xs, SqL K H a xs → xs[i]? = some v, fun i H => ∃ xs, SqL K H a xs ∧ xs.length ≤ i⟩
theorem turn_enum {P : Program} {w : World} {K : PySem.W.Frag} {elts : List Expr} {x1 : Nat} {tpos : Pos} (a e it : Addr) (hne : e ≠ it) :
    Turn P w K (.Tuple elts x1 tpos) (Ite K a) [e, it] e (fun i h => (∃ old, IsEnum h e it (i : Int) old) ∧ h.IsListIter it a i) where
  mem := by simp
  obj := fun i h st b hb => by
    obtain ⟨⟨old, he⟩, hi⟩ := st
    rcases List.mem_cons.mp hb with rfl | hb
    · exact ⟨_, he, fun v z => by
        have z' : Data.fields _ = Data.cell v := z
        cases z'⟩
    · have e' : b = it := by simpa using hb
      subst e'
      obtain ⟨o, q, c, d⟩ := hi
      exact ⟨o, q, fun v z => by rw [d] at z; cases z⟩
  keep := fun i h h' st k => by
    obtain ⟨⟨old, he⟩, hi⟩ := st
    exact ⟨⟨old, k e (by simp) _ he⟩, hi.at fun o q => k it (by simp) o q⟩
  item := by
    intro X hP hw hK hc i pins s σ H E I hf st hg
    subst hP hw hK
    obtain ⟨xs, x, hq, hx⟩ := hg
    obtain ⟨its, rv, p, hz⟩ := I.list hq
    obtain ⟨u, hu, ru⟩ := rv.get hx
    obtain ⟨⟨old, he⟩, hit⟩ := st
    have fe := hf e (by simp)
    have fi := hf it (by simp)
    refine wpAny_pyNext_enum_item he hit p.isList (x := u) (by simpa using hu) hne fun h1 heO hit1 htup hsz hk1 => ?_
    refine ⟨_, rfl, wpAny_letOwnedTupleGo_enum heO fun h2 he2 sb => ?_⟩
    have hTn : H s.heap.objs.size = none := I.hok.fresh (Nat.le_refl _)
    have hk : ∀ b o, b ≠ e → b ≠ it → s.heap.get? b = some o → h2.get? b = some o := fun b o hbe hbi q => (sb.2 b hbe).trans (hk1 b o hbe hbi q)
    have hTe : s.heap.objs.size ≠ e := Nat.ne_of_gt (Heap.lt_size he)
    have htup2 : h2.get? s.heap.objs.size = some { cls := .type "tuple", data := .seq #[.int i s.toks, u] } := (sb.2 _ hTe).trans htup
    have ne : ∀ b v, H b = some v → b ≠ e ∧ b ≠ it := fun b v q => ⟨ne_of_none q fe.1, ne_of_none q fi.1⟩
    have hokH : HOk X.prog X.w H h2 := fun b v q => (I.hok b v q).stay (fun c z hc' r => by
      have nc : c ≠ e ∧ c ≠ it := by
        rcases hc' with rfl | hc'
        · exact ne _ _ q
        · exact ne _ _ hc'
      exact hk c z nc.1 nc.2 r) (fun _ r => r) fun _ _ r => r
    have hok : HOk X.prog X.w (upd H s.heap.objs.size (.tup [.int i, x])) h2 := fun b v q => by
      by_cases hb : b = s.heap.objs.size
      · subst hb
        rw [upd_same] at q
        cases q
        refine ⟨by show 2 ≤ sizeLine; decide, [.int i s.toks, u], .cons ⟨_, rfl⟩ (.cons ru .nil), ?_⟩
        exact ⟨_, htup2, rfl, _, rfl⟩
      · rw [upd_ne hb] at q
        exact (hokH b v q).stay (fun c z _ r => r) (fun c r => by rw [upd_ne (ne_of_none r hTn)]; exact r) fun c ys r => by rw [upd_ne (ne_of_none r hTn)]; exact r
    have lt : ∀ b o, s.heap.get? b = some o → b ≠ s.heap.objs.size := fun b o q => Nat.ne_of_lt (Heap.lt_size q)
    have notIn : ∀ b : Addr, b ∉ [e, it] → b ≠ e ∧ b ≠ it := fun b z => ⟨fun q => z (by rw [q]; simp), fun q => z (by rw [q]; simp)⟩
    have I1 : Inv X pins σ (upd H s.heap.objs.size (.tup [.int i, x])) { s with heap := h2, gens := s.gens, drawn := s.drawn, toks := s.toks + 1 } := by
      refine I.step (ch := [e, it]) (fun b hb => ?_) (fun b o _ _ hc' q _ => hk b o (notIn b hc').1 (notIn b hc').2 q) (fun b o _ _ hc' q _ => ⟨o.slots, hk b o (notIn b hc').1 (notIn b hc').2 q⟩) (fun b o hc' q n => by rw [upd_ne (lt b o q)]; exact n)
        (fun b o hc' q => ⟨o, hk b o (notIn b hc').1 (notIn b hc').2 q⟩) (fun b ys q => by rw [upd_ne (ne_of_none q hTn)]; exact q) (fun b o ys q => by rw [upd_ne (ne_of_none q hTn)]; exact q) (fun b ps q => ⟨#[], by rw [upd_ne (ne_of_none q hTn), q]; simp⟩) (fun m hm => ?_) hok I.bare
      · rcases List.mem_cons.mp hb with rfl | hb
        · exact ⟨fe.2.2.2.1, fe.2.1, fe.2.2.2.2.1, fe.2.2.2.2.2⟩
        · have e' : b = it := by simpa using hb
          subst e'
          exact ⟨fi.2.2.2.1, fi.2.1, fi.2.2.2.2.1, fi.2.2.2.2.2⟩
      · obtain ⟨o, es, ep, ho, r⟩ := hm
        exact ⟨o, es, ep, hk _ o (Ne.symm fe.2.1) (Ne.symm fi.2.1) ho, r⟩
    refine ⟨.ref s.heap.objs.size, _, I1, rfl, ⟨_, x, rfl, hTn, rfl, fun ys hy => by rw [I.list_inj hy hq]; exact hx⟩, ⟨⟨_, he2⟩, hit1.extBut sb.extBut (Ne.symm hne)⟩, fun b hb => ?_⟩
    rcases List.mem_cons.mp hb with rfl | hb
    · rw [upd_ne (Ne.symm hTe)]; exact fe.1
    · have e' : b = it := by simpa using hb
      subst e'
      obtain ⟨o, q, _⟩ := hit
      rw [upd_ne (lt _ o q)]; exact fi.1
  done := by
    intro X hP hw hK hc i pins s σ H E I hf st hg
    subst hP hw hK
    obtain ⟨xs, hq, hx⟩ := hg
    obtain ⟨its, rv, p, hz⟩ := I.list hq
    obtain ⟨⟨old, he⟩, hit⟩ := st
    obtain ⟨f0, f1, f2, f3, f4, f5⟩ := hf it (by simp)
    have hl := rv.length
    exact wpAny_pyNext_enum_end (I.ok.hd hc) he hit p.isList (by simp; omega) fun h' eb => ⟨rfl, I.turned (t' := s.toks) (fun b o hb q => eb b o hb q) f0 f1 f3 f4 f5⟩
  self := fun A i s Q E st h => by
    obtain ⟨⟨old, he⟩, _⟩ := st
    exact wpAny_pyIter_enum he h
section
variable {X : Cx}
def iEnum (K : PySem.W.Frag) (ta : TA) : TI := fun σ H R => ta σ H fun vs H1 => ∃ (a : Addr) (xs : List V), vs = [.ref a] ∧ SqL K H1 a xs ∧ R (Ite K a) H1
theorem pi_enumerate {elts : List Expr} {x1 : Nat} {tpos : Pos} {a : Expr} {ta : TA} {p pos : Pos} (hg : Gl X "enumerate") (hm : X.mg "enumerate" = none) (ha : PA X [a] ta) (hs : starEach [a] X.env = [(false, eval a X.env)] := by rfl) :
    PI X (.Tuple elts x1 tpos) (.Call (.Name "enumerate" p) [a] [] pos) (iEnum X.K ta) := by
  intro pins s σ H R I h
  refine Call_ (ld_blt I hg hm bt_enumerate (PyProof.Rows.callWith_type1 (thn (ha pos pins s σ H _ I h) fun us s1 ⟨vs, H1, I1, r1, q1⟩ => ?_) hs rfl))
  obtain ⟨l, xs, e, hq, q⟩ := q1
  subst e
  cases r1 with
  | cons r rr =>
    cases rr
    cases r
    obtain ⟨its, rv, pl, hz⟩ := I1.list hq
    refine call_enumerate_list pl.isList fun h' he hit hsz hk => ?_
    refine wpAny_pyIter_enum he ?_
    refine ⟨_, [_, _], _, _, H1, rfl, I1.kept (t' := s1.toks) hk, turn_enum l _ _ (Nat.succ_ne_self _), ⟨⟨_, he⟩, hit⟩, fun b hb => ?_, q⟩
    rcases List.mem_cons.mp hb with rfl | hb
    · exact I1.fpOk (Nat.le_succ _) (I1.hok.fresh (Nat.le_succ _))
    · have e' : b = s1.heap.objs.size := by simpa using hb
      subst e'
      exact I1.fpOk (Nat.le_refl _) (I1.hok.fresh (Nat.le_refl _))
end
theorem for_enum {K : PySem.W.Frag} {a : Addr} {xs : List V} {g : TG} {tb : TS} {D : Ends} {σ : St} {H : Hp} (Pv : Nat → St → Hp → Prop) (h0 : Pv 0 σ H) (hl : ∀ i σ H, i ≤ xs.length → Pv i σ H → SqL K H a xs)
    (hs : ∀ i x t σ H, xs[i]? = some x → H t = none → Pv i σ H → g (.ref t) σ (upd H t (.tup [.int i, x])) fun σ2 H2 => tb { D with nx := Pv (i + 1), ct := Pv (i + 1), bk := D.nx } σ2 H2) (hd : ∀ σ H, Pv xs.length σ H → D.nx σ H) :
    ∃ W : Nat → Nat → St → Hp → Prop, (∃ m, W 0 m σ H) ∧ ∀ i m σ H, W i m σ H →
      ((Ite K a).stop i H ∧ D.nx σ H) ∨ ((Ite K a).go i H ∧ ∃ N : St → Hp → Prop, (∀ σ' H', N σ' H' → ∃ m', m' < m ∧ W (i + 1) m' σ' H') ∧ ∀ x H', (Ite K a).yld i H x H' → g x σ H' fun σ2 H2 => tb { D with nx := N, ct := N, bk := D.nx } σ2 H2) := by
  refine ⟨fun i m σ H => m = xs.length - i ∧ i ≤ xs.length ∧ Pv i σ H, ⟨xs.length, by simp, Nat.zero_le _, h0⟩, ?_⟩
  rintro i m σ H ⟨rfl, hi, p⟩
  have q := hl i σ H hi p
  by_cases hlt : i < xs.length
  · refine .inr ⟨⟨xs, xs[i], q, by simp [hlt]⟩, Pv (i + 1), fun σ' H' p' => ⟨xs.length - (i + 1), by omega, rfl, hlt, p'⟩, fun x H' y => ?_⟩
    obtain ⟨t, v, e1, e2, e3, y⟩ := y
    subst e1 e3
    exact hs i v t σ _ (y xs q) e2 p
  · have e : i = xs.length := by omega
    subst e
    exact .inl ⟨⟨xs, q, Nat.le_refl _⟩, hd σ H p⟩
end L2
namespace PySem
namespace F
end F
section
variable {pr : Program} {w : World} {A : Around} {E : Value → Shared → Prop} {s : Shared}
end
end PySem
namespace L2
open PySem PySem.Spec PyProof.Rows
section
variable {X : Cx}
end
end L2
namespace L2
open PySem PySem.Spec PyProof.Rows
theorem Paired.imp {α β : Type} {F G : α → β → Prop} (h : ∀ x y, F x y → G x y) : ∀ {xs : List α} {ys : List β}, Paired F xs ys → Paired G xs ys
  | _, _, .nil => .nil
  | _, _, .cons f t => .cons (h _ _ f) (Paired.imp h t)
theorem comp_allH {J : It} {te : TE} {τ0 : St} {H1 : Hp} {D : Addr} {Q : VK} {xs : List V} (hD : H1 D = none) (hz : xs.length ≤ sizeLine) (F : Hp → V → V → Prop)
    (hF1 : ∀ H H' x y, Same H H' → F H x y → F H' x y) (hF2 : ∀ H a ys zs x y, H a = some (.lst ys) → F H x y → F (L2.upd H a (.lst zs)) x y)
    (hj : (∀ i x H, xs[i]? = some x → Same H1 H → J.go i H) ∧ (∀ i H x H2, Same H1 H → i < xs.length → J.yld i H x H2 → H2 = H ∧ xs[i]? = some x) ∧ (∀ H, Same H1 H → J.stop xs.length H))
    (he : ∀ x H R, x ∈ xs → Same H1 H → (∀ y H4, Same H H4 → F H4 x y → R y H4) → te (τ0.set 0 (some x)) H R)
    (done : ∀ ys H, Paired (F H) xs ys → Same H1 H → H D = some (.lst ys) → Q (.ref D) H) :
    ∃ W : Nat → Nat → St → List V → Hp → Prop, (∃ m, W 0 m τ0 [] (upd H1 D (.lst []))) ∧ ∀ i m τ ys H', W i m τ ys H' →
      H' D = some (.lst ys) ∧ ((J.stop i H' ∧ At Q (.ref D) H') ∨ (J.go i H' ∧ ys.length < sizeLine ∧ ∀ x H2, J.yld i H' x H2 → gName 0 x τ H2 fun τ2 H3 => tYes τ2 H3 fun ok H4 =>
        if ok = true then te τ2 H4 fun y H5 => H5 D = some (.lst ys) ∧ ∃ m', m' < m ∧ W (i + 1) m' τ2 (ys ++ [y]) (L2.upd H5 D (.lst (ys ++ [y]))) else ∃ m', m' < m ∧ W (i + 1) m' τ2 ys H4)) := by
  refine ⟨fun i m τ ys H => i ≤ xs.length ∧ m = xs.length - i ∧ (τ = τ0 ∨ ∃ x : V, τ = τ0.set 0 (some x)) ∧ Paired (F H) (xs.take i) ys ∧ Same H1 H ∧ H D = some (.lst ys),
    ⟨xs.length, Nat.zero_le _, by simp, .inl rfl, by simpa using Paired.nil, (Same.refl H1).upd hD _, upd_same⟩, ?_⟩
  rintro i m τ ys H ⟨hi, rfl, hτ, hF, hS, hDy⟩
  refine ⟨hDy, ?_⟩
  by_cases hlt : i < xs.length
  · have hl : ys.length < sizeLine := by
      have e1 := hF.length
      have e3 : (xs.take i).length ≤ i := by rw [List.length_take]; exact Nat.min_le_left _ _
      omega
    refine .inr ⟨hj.1 i xs[i] H (by simp [hlt]) hS, hl, fun x H2 y => ?_⟩
    obtain ⟨rfl, hx⟩ := hj.2.1 i H x H2 hS hlt y
    have hm : x ∈ xs := List.mem_of_getElem? hx
    have etk : xs.take (i + 1) = xs.take i ++ [x] := by
      rw [List.take_succ, hx]
      rfl
    refine gName_step x τ _ _ hτ ?_
    refine he x _ _ hm hS fun y H5 s5 f => ⟨s5 _ _ hDy, xs.length - (i + 1), by omega, hlt, rfl, .inr ⟨x, rfl⟩, ?_, (hS.trans s5).upd hD _, upd_same⟩
    rw [etk]
    exact Paired.snoc (Paired.imp (fun a b z => hF2 _ _ _ _ _ _ (s5 _ _ hDy) (hF1 _ _ _ _ s5 z)) hF) (hF2 _ _ _ _ _ _ (s5 _ _ hDy) f)
  · have e : i = xs.length := by omega
    subst e
    refine .inl ⟨hj.2.2 H hS, done ys H ?_ hS hDy⟩
    simpa using hF
end L2
namespace L2
open PySem PySem.Spec PyProof.Rows
section
variable {X : Cx} {scope : Scope} {N' : List Str} {js : List (Option Nat)} {tg elt iter : Expr} {ifs : List Expr} {pos : Pos} {wi : TI} {g : TG} {tt : TT} {te : TE}
theorem ps_setComp {i : Nat} {x : Str} {pos' spos : Pos} (hN : X.N.Nodup) (hi : X.N[i]? = some x) (hx : Loc X.env.scope x) (S : CompOk X scope N' js) (hc : X.calm = true) (hit : PI X tg iter wi) (hg : ∀ C s H fp, PG (compCx X scope N' C s H fp) tg g) (ht : ∀ C s H fp, PIfs (compCx X scope N' C s H fp) ifs tt) (he : ∀ C s H fp, PE (compCx X scope N' C s H fp) elt te)
    (hsw : swapsWith (.ListComp elt [⟨tg, iter, ifs, 0⟩] scope pos) (some (.Name x pos')) spos.line X.env = pure true := by rfl) (hs : ∀ x, foldedSetIterable iter X.env x = pure x := by intro _; rfl)
    (hf : X.fn x = true ∨ X.env.scope.names.lookup x = some .local := by first | exact .inl rfl | exact .inr rfl | assumption) :
    PS X (.Assign [.Name x pos'] (.ListComp elt [⟨tg, iter, ifs, 0⟩] scope pos) spos) (tAsg (tComp wi js g tt te) (gName i)) := by
  intro pins s σ H D0 I h
  rw [exec_Assign_Name_used _ _ _ _ hsw]
  refine wpAny_bind (wpAny_standAt (wpAny_bind ?_))
  show wpAny _ X.A (do let _ ← comprehension (.ListComp elt [⟨tg, iter, ifs, 0⟩] scope pos) scope X.env _ (newList []) false (eval iter X.env) (some (assign (.Name x pos') X.env))) _ _ s
  have has : ∀ y ∈ scope.names, y.2 = .free → ∃ c, X.env.cells.lookup y.1 = some c := fun y hy e => I.ok.has y.1 (S.free y hy e)
  refine wpAny_bind (wpAny_mono (wpAny_comprehension_free (use := some (assign (.Name x pos') X.env)) (Q := fun _ s' => SP X pins D0 .next s') rfl hs (closureFor_eq has) S.kind S.names (thn (hit pins s σ H _ I h) fun v s1 h1 => thn h1 fun itv s2 h2 => ?_)) (fun _ s' hq => wpAny_pure (wpAny_pure hq)) fun _ _ e => e)
  obtain ⟨it, fp, tn, J, H2, e, I2, T, st2, f2, q2⟩ := h2
  subst e
  refine wpAny_newObj_type (wpAny_newFunctionEnv S.cell (by intro y hy; simp at hy) (fun h₁ hns₁ hsb₁ => ?_) S.kind)
  dsimp only at hns₁ hsb₁ ⊢
  generalize hH2 : s2.heap.push { cls := .type "list", dict := none, data := .seq ([] : List Value).toArray } = P2 at hns₁ hsb₁ ⊢
  have hC : P2.objs.size = s2.heap.objs.size + 1 := by rw [← hH2, Heap.size_push]
  have hDC : s2.heap.objs.size ≠ P2.objs.size := by rw [hC]; exact Nat.ne_of_lt (Nat.lt_succ_self _)
  have hCle : s2.heap.objs.size ≤ P2.objs.size := by rw [hC]; exact Nat.le_succ _
  have old : ∀ b o, s2.heap.get? b = some o → h₁.get? b = some o := fun b o e => hsb₁.extBut b o (by rw [hC]; exact Nat.ne_of_lt (Nat.lt_succ_of_lt (Heap.lt_size e))) (Heap.get?_push_of_some _ (hH2 ▸ Heap.get?_push_of_some _ e))
  have hacc : h₁.get? s2.heap.objs.size = some { cls := .type "list", data := .seq #[] 0 } := hsb₁.extBut _ _ hDC (Heap.get?_push_of_some _ (hH2 ▸ Heap.get?_push_size _ rfl))
  have hfo : ∀ b ∈ fp, ∃ o, s2.heap.get? b = some o := fun b hb => let ⟨o, e, _⟩ := T.obj _ _ st2 b hb; ⟨o, e⟩
  have hfresh : H2 s2.heap.objs.size = none := I2.hok.fresh (Nat.le_refl _)
  obtain ⟨W, ⟨m0, w0⟩, turn⟩ := q2 s2.heap.objs.size hfresh
  have IS : ∀ tk, Inv (compCx X scope N' P2.objs.size s2 H2 fp) [] (compSt js σ) (upd H2 s2.heap.objs.size (.lst [])) { s2 with heap := h₁, toks := tk } := fun tk => comp_start S I2 f2 hfo (Nat.le_refl _) hCle hDC hns₁ old hacc
  have fpC : ∀ {H' : Hp}, (∀ b ∈ fp, H' b = none) → ∀ b ∈ fp, FpOk (compCx X scope N' P2.objs.size s2 H2 fp) [] H' b := fun {H'} hn b hb => by
    obtain ⟨o, ho⟩ := hfo b hb
    refine ⟨hn b hb, Nat.ne_of_lt (Nat.lt_of_lt_of_le (Heap.lt_size ho) hCle), fun z => ?_, .inl hb, fun x c e => ?_, fun p hp => absurd (show p ∈ ([] : List (Addr × Obj)) from hp) (by simp)⟩
    · rcases List.mem_cons.mp (I2.stkSub b z) with e | e
      · exact (f2 b hb).2.1 e
      · exact (f2 b hb).2.2.1 e
    · exact (f2 b hb).2.2.2.2.1 x c (closL_of scope.names [] x c has (fun _ _ z => by simp at z) e)
  have start0 : ∀ b ∈ fp, upd H2 s2.heap.objs.size (.lst []) b = none := fun b hb => by
    obtain ⟨o, ho⟩ := hfo b hb
    rw [upd_ne (Nat.ne_of_lt (Heap.lt_size ho))]
    exact (f2 b hb).1
  have loop : ∀ s₃ : Shared, s₃ = { s2 with heap := h₁, toks := s2.toks + ([] : List (Str × Value)).length } →
      codeAny (model X.prog X.w) X.A (.compLoop (.ListComp elt [⟨tg, iter, ifs, 0⟩] scope pos) 0 (.ref it) (.ref s2.heap.objs.size) (compEnvC scope (closL X.env scope.names []) P2.objs.size X.env))
        (compPost (model X.prog X.w) X.A X.xe (some (assign (.Name x pos') X.env)) (fun _ s' => SP X pins D0 .next s') (.ref s2.heap.objs.size) P2.objs.size) s₃ := by
    rintro s₃ rfl
    refine codeAny_compLoop_gen (fun n s' => ∃ i τ ys H', Inv (compCx X scope N' P2.objs.size s2 H2 fp) [] τ H' s' ∧ tn i s'.heap ∧ (∀ b ∈ fp, H' b = none) ∧ W i n τ ys H') ?_ m0
      ⟨0, _, [], _, IS _, T.keep _ _ _ st2 fun b _ o e => old b o e, start0, w0⟩
    rintro n s3 ⟨i, τ, ys, H3, I3, st3, fr3, w3⟩
    obtain ⟨hD3, cases3⟩ := turn i n τ ys H3 w3
    rcases cases3 with ⟨stop, qn⟩ | ⟨go, hz, step⟩
    · refine thn (T.done (compCx X scope N' P2.objs.size s2 H2 fp) rfl rfl rfl hc i [] s3 τ H3 _ I3 (fpC fr3) st3 stop) fun r s4 ⟨hr, I4⟩ => ?_
      subst hr
      obtain ⟨m4, hn4, _⟩ := id I4.loc
      have un : Un (frs X.stack) fp H2 H3 s2.heap s4.heap := by
        have u := I4.base
        exact ⟨u.keep, u.slot, u.free, u.there, u.tups, u.frzs, u.tbls⟩
      have hCn : H3 P2.objs.size = none := I4.free
      have hokX : HOk X.prog X.w H3 s4.heap := I4.hok
      obtain ⟨oC, es, ep, hoC, rC⟩ := id hn4
      have fC := I2.fpOk hCle (I2.hok.fresh hCle)
      have hbare := I4.bare
      have hos := I4.os
      have I5 : Inv X pins σ H3 s4 := by
        obtain ⟨hh, gg, dd, tt', os'⟩ := s4
        obtain rfl : os' = s2.os := hos
        exact Inv.call (s := s2) I2 (h' := hh) (g' := gg) (d' := dd) (t' := tt') (ch := fp) un hokX hbare (fun b hb => ⟨(f2 b hb).2.2.2.1, (f2 b hb).2.1, (f2 b hb).2.2.2.2.1, (f2 b hb).2.2.2.2.2⟩)
      have I6 : Inv X (pins ++ [(P2.objs.size, oC)]) σ H3 s4 := I5.pins_of fun p hp => (List.mem_append.mp hp).elim (fun z => I5.pin p (List.mem_append_right _ z)) fun z => by
        rw [List.mem_singleton] at z
        subst z
        exact ⟨hoC, hCn, fC.2.1, fC.2.2.1, fun v e => by simp_all⟩
      refine thn (pg_name (pos := pos') hN hi hx hf _ s4 σ H3 (.ref s2.heap.objs.size) (.ref s2.heap.objs.size) _ I6 rfl qn) fun _ s7 ⟨σ7, H7, I7, q7⟩ => ?_
      have pC := I7.pin (P2.objs.size, oC) (List.mem_append_right _ (List.mem_append_right _ (List.mem_singleton.mpr rfl)))
      refine ⟨m4, ⟨oC, es, ep, pC.1, rC⟩, fun h' hs' => ⟨σ7, H7, ?_, q7⟩⟩
      exact Inv.turned (t' := s7.toks) I7.unpinned (fun b o hb e => hs'.extBut b o hb e) pC.2.1 fC.2.1 fC.2.2.2.1 fC.2.2.2.2.1 fC.2.2.2.2.2
    · refine thn (T.item (compCx X scope N' P2.objs.size s2 H2 fp) rfl rfl rfl hc i [] s3 τ H3 _ I3 (fpC fr3) st3 go) fun r s4 ⟨u, hr, h4⟩ => ?_
      subst hr
      refine thn h4 fun _ s5 ⟨x, H5, I5, r5, y5, st5, fr5⟩ => ?_
      have I5' := I5.pinned (fpC fr5) (T.obj _ _ st5)
      have keepT : ∀ {τ7 : St} {H7 : Hp} {s7 : Shared}, Inv (compCx X scope N' P2.objs.size s2 H2 fp) ([] ++ pinsAt fp s5.heap) τ7 H7 s7 → Inv (compCx X scope N' P2.objs.size s2 H2 fp) [] τ7 H7 s7 ∧ tn (i + 1) s7.heap ∧ (∀ b ∈ fp, H7 b = none) := fun {τ7 H7 s7} I7 => by
        refine ⟨I7.unpinned, T.keep _ _ _ st5 fun b hb o e => (I7.pin (b, o) (List.mem_append_right _ (List.mem_append_right _ (mem_pinsAt hb e)))).1, fun b hb => ?_⟩
        obtain ⟨o, e, d⟩ := T.obj _ _ st5 b hb
        exact (I7.pin (b, o) (List.mem_append_right _ (List.mem_append_right _ (mem_pinsAt hb e)))).2.1
      refine thn (hg _ _ _ _ _ s5 τ H5 x u _ I5' r5 (step x H5 y5)) fun _ s6 ⟨τ6, H6, I6, q6⟩ => ?_
      refine thn (ht _ _ _ _ _ s6 τ6 H6 _ I6 q6) fun ok s7 ⟨H7, I7, q7⟩ => ?_
      cases ok with
      | false =>
        obtain ⟨m', hm, w7⟩ := (by simpa using q7 : ∃ m', m' < n ∧ W (i + 1) m' τ6 ys H7)
        obtain ⟨a, b, c⟩ := keepT I7
        exact ⟨m', hm, i + 1, τ6, ys, H7, a, b, c, w7⟩
      | true =>
        rw [if_pos rfl]
        rw [if_pos rfl] at q7
        refine thn (he _ _ _ _ _ s7 τ6 H7 _ I7 q7) fun y s8 ⟨yv, H8, I8, r8, hD8, m', hm, w8⟩ => ?_
        refine thn (mt_append _ s8 τ6 H8 (.ref s2.heap.objs.size) [yv] (.ref s2.heap.objs.size) [y] (fun _ H9 => H9 = upd H8 s2.heap.objs.size (.lst (ys ++ [yv]))) I8 rfl (.cons r8 .nil) ⟨_, ys, yv, rfl, rfl, hD8, hz, rfl⟩) fun _ s9 ⟨_, H9, I9, _, e9⟩ => ?_
        subst e9
        obtain ⟨a, b, c⟩ := keepT I9
        exact ⟨m', hm, i + 1, τ6, ys ++ [yv], _, a, b, c, w8⟩
  exact codeAny_compStart_list (loop _ rfl) (T.self X.A 0 _ _ _ (T.keep _ _ _ st2 fun b _ o e => old b o e) (loop _ rfl))
end
end L2
namespace L2
open PySem PySem.Spec PyProof.Rows
structure Fly (P : Program) (w : World) (outer : List Env) (H : Hp) (s : Shared) (H' : Hp) (C : Addr) (e : Value) (s' : Shared) : Prop where
  ex : ∃ (ea : Addr) (a0 : Value) (B : Heap), e = .ref ea ∧ Heap.FlyingW B outer ea (.ref C) a0 s'.heap ∧ (∀ b o, s.heap.get? b = some o → H b = none → b ∉ frs outer → B.get? b = some o) ∧
    (∀ b o, s.heap.get? b = some o → b ∉ frs outer → ∃ o', B.get? b = some o') ∧ (∀ b o, H' b ≠ none → s'.heap.get? b = some o → B.get? b = some o)
  os : s'.os = s.os
  bare : AllBare s'.gens
  un : Un (frs outer) [] H H' s.heap s'.heap
  hok : HOk P w H' s'.heap
def CXE (P : Program) (w : World) : CXT := fun outer H s E e s' => ∃ C H', Fly P w outer H s H' C e s' ∧ E (.ref C) none H'
theorem hok_stays {P : Program} {w : World} {H' : Hp} {h h' B : Heap} (x : HOk P w H' h) (bk : ∀ b o, H' b ≠ none → h.get? b = some o → B.get? b = some o) (st : B.StaysIn h') : HOk P w H' h' := fun b ob e => by
  refine (x b ob e).stay (fun c v hc q => st c v (bk c v ?_ q)) (fun _ q => q) fun _ _ q => q
  rcases hc with rfl | hc
  · rw [e]; simp
  · rw [hc]; simp
theorem ObjOk.there {P : Program} {w : World} {H : Hp} {h : Heap} {a : Addr} {o : HO} (x : ObjOk P w H h a o) : ∃ ob, h.get? a = some ob := by
  cases o with
  | lst xs => obtain ⟨_, _, _, _, e⟩ := x; exact ⟨_, e⟩
  | tup xs => obtain ⟨_, _, _, ob, e, _⟩ := x; exact ⟨_, e⟩
  | dK kvs => obtain ⟨_, _, _, _, o, _, _, e, _⟩ := x; exact ⟨_, e⟩
  | dT kvs => obtain ⟨_, _, _, _, o, _, _, e, _⟩ := x; exact ⟨_, e⟩
  | set S n => obtain ⟨o, _, _, _, e, _⟩ := x; exact ⟨_, e⟩
  | ins C dx fs => obtain ⟨_, _, _, e, _⟩ := x; exact ⟨_, e⟩
  | own y => obtain ⟨_, e⟩ := x; exact ⟨_, e⟩
  | xd fs => obtain ⟨_, ⟨_, _, _, e, _⟩, _⟩ := x; exact ⟨_, e⟩
  | rng lo hi => obtain ⟨_, _, _, e⟩ := x; exact ⟨_, e⟩
  | frz ob u => obtain ⟨e, _⟩ := x; exact ⟨_, e⟩
  | tbl ps => exact ⟨_, show h.get? a = some _ from x⟩
  | met f y => exact ⟨_, show h.get? a = some _ from x⟩
  | ext φ => obtain ⟨_, ⟨_, e⟩, _⟩ := x; exact ⟨_, e⟩
theorem HOk.there {P : Program} {w : World} {H : Hp} {h : Heap} {a : Addr} (x : HOk P w H h) (hn : H a ≠ none) : ∃ ob, h.get? a = some ob := by
  cases q : H a with
  | none => exact absurd q hn
  | some u => exact (x a u q).there
theorem frs_mem {h base : Heap} {l : List Env} (f : h.FunFrames base l) {b : Addr} (hb : b ∈ frs l) : base.get? b = none ∧ ∃ o, h.get? b = some o ∧ ∀ vs, o.data ≠ .fields vs := f.mem hb
theorem un_slots {fs : List Addr} {H H' : Hp} {h0 h h' B base : Heap} {l : List Env} (hl : frs l = fs) (u : Un fs [] H H' h0 h) (f : h.FunFrames base l) (bk : ∀ b o, h0.get? b = some o → H b = none → b ∉ fs → B.get? b = some o)
    (bt : ∀ b o, h0.get? b = some o → b ∉ fs → ∃ o', B.get? b = some o') (st : B.StaysIn h') (sl : h.UpToSlots h') : Un fs [] H H' h0 h' where
  keep := fun b o e n hb _ => st b o (bk b o e n hb)
  slot := fun b o e n hb hx => by
    obtain ⟨sl1, e1⟩ := u.slot b o e n hb hx
    obtain ⟨_, o1, e2, nf⟩ := frs_mem f (by rw [hl]; exact hb)
    rw [e1] at e2
    cases e2
    obtain ⟨sl2, e3⟩ := sl b _ e1 nf
    exact ⟨sl2, e3⟩
  free := u.free
  there := fun b o e hx => by
    by_cases hb : b ∈ fs
    · obtain ⟨_, o1, e2, nf⟩ := frs_mem f (by rw [hl]; exact hb)
      obtain ⟨sl2, e3⟩ := sl b _ e2 nf
      exact ⟨_, e3⟩
    · obtain ⟨o', q⟩ := bt b o e hb
      exact ⟨o', st b o' q⟩
  tups := u.tups
  frzs := u.frzs
  tbls := u.tbls
section
variable {P : Program} {w : World} {K : PySem.W.Frag} {mg : Str → Option Value} {base : Heap} {N : List Str} {qual : Str} {scope : Scope} {f : Addr} {cd : Value} {A : Around} {outer : List Env} {s : Shared} {H : Hp} {E : XK}
abbrev cxE (P : Program) (w : World) (K : PySem.W.Frag) (mg : Str → Option Value) (base : Heap) (N : List Str) (qual : Str) (scope : Scope) (f : Addr) (cd : Value) (A : Around) (outer : List Env) (s : Shared) (H : Hp) (E : XK) : Cx :=
  cxOf (CXE P w) P w K mg base N qual scope f cd A outer s H E
theorem Inv.notHere {pins : List (Addr × Obj)} {σ : St} {H1 : Hp} {s1 : Shared} (I : Inv (cxE P w K mg base N qual scope f cd A outer s H E) pins σ H1 s1) {b : Addr} {o : Obj} (e : s.heap.get? b = some o) (hb : b ∉ frs outer) :
    b ∉ frs (cxE P w K mg base N qual scope f cd A outer s H E).stack := fun z => by
  rcases List.mem_cons.mp (I.stkSub b z) with q | q
  · exact absurd (Heap.lt_size e) (Nat.not_lt.mpr (by rw [q]; exact I.ok.above))
  · exact hb q
theorem fly_made {pins : List (Addr × Obj)} {σ : St} {H1 : Hp} {s1 : Shared} {h2 : Heap} {e C : Addr} {vs : List Value} (I : Inv (cxE P w K mg base N qual scope f cd A outer s H E) pins σ H1 s1) (hx : Heap.MadeExcOf s1.heap h2 e (.ref C) vs) (q : E (.ref C) none H1) :
    (cxE P w K mg base N qual scope f cd A outer s H E).xe (.ref e) { s1 with heap := h2 } := by
  have fr := I.ok.frames
  have stk := I.stack
  have hin : ∀ env ∈ (cxE P w K mg base N qual scope f cd A outer s H E).stack, ∀ b, env.frame = some b → b ∈ frs (cxE P w K mg base N qual scope f cd A outer s H E).stack := fun env he b hb => List.mem_filterMap.mpr ⟨env, he, hb⟩
  have inB : ∀ b o, s1.heap.get? b = some o → b ∉ frs (cxE P w K mg base N qual scope f cd A outer s H E).stack → (PySem.W.hideAll s1.heap (frs (cxE P w K mg base N qual scope f cd A outer s H E).stack)).get? b = some o := fun b o e' hb => PySem.W.hideAll_get _ e' hb
  have trk : ∀ b o, H1 b ≠ none → s1.heap.get? b = some o → (PySem.W.hideAll s1.heap (frs (cxE P w K mg base N qual scope f cd A outer s H E).stack)).get? b = some o := fun b o hn e' => inB b o e' fun z => hn (I.stkFree b z)
  have bk : ∀ b o, s.heap.get? b = some o → H b = none → b ∉ frs outer → (PySem.W.hideAll s1.heap (frs (cxE P w K mg base N qual scope f cd A outer s H E).stack)).get? b = some o := fun b o e' n hb =>
    inB b o (I.base.keep b o e' n hb (by intro z; cases z)) (I.notHere e' hb)
  have bt : ∀ b o, s.heap.get? b = some o → b ∉ frs outer → ∃ o', (PySem.W.hideAll s1.heap (frs (cxE P w K mg base N qual scope f cd A outer s H E).stack)).get? b = some o' := fun b o e' hb => by
    obtain ⟨o', q'⟩ := I.base.there b o e' (by intro z; cases z)
    exact ⟨o', inB b o' q' (I.notHere e' hb)⟩
  refine wpAny_leaves_madeW (base := PySem.W.hideAll s1.heap (frs (cxE P w K mg base N qual scope f cd A outer s H E).stack)) fr rfl (fun b o e' => PySem.W.of_hideAll _ e') (PySem.W.funFrames_hide stk hin) hx fun h' t x1 _ _ x4 => ?_
  refine ⟨C, H1, ⟨⟨e, _, _, rfl, x1, bk, bt, fun b o hn e' => ?_⟩, I.os, I.bare, ?_, ?_⟩, q⟩
  · obtain ⟨o1, e1⟩ := I.hok.there hn
    have e2 := trk b o1 hn e1
    have e3 := x1.1 b o1 e2
    rw [e'] at e3
    cases e3
    exact e2
  · have u0 : Un (frs outer) [] H H1 s.heap h2 := Un.trans (show Un (frs outer) [] H H1 s.heap s1.heap from I.base) (Un.kept hx.keeps)
    exact un_slots (base := (PySem.W.hideAll s1.heap (frs (cxE P w K mg base N qual scope f cd A outer s H E).stack))) rfl u0 (((PySem.W.funFrames_hide stk hin).of_keeps fun b o hb _ => ⟨o, hx.keeps b o hb, rfl⟩).2.2) bk bt x1.1 x4
  · exact hok_stays I.hok trk x1.1
theorem fly_pass {E1 : XK} (hE : ∀ C H', E1 (.ref C) none H' → E (.ref C) none H') : Passes (CXE P w) (cxE P w K mg base N qual scope f cd A outer s H E) E1 := by
  intro pins σ H1 s1 e s' I h
  obtain ⟨C, H', F, q⟩ := h
  obtain ⟨ea, a0, B, rfl, fl, b1, b3, b2⟩ := F.ex
  have fr := I.ok.frames
  have un1 := F.un
  have un0 : Un (frs outer) [] H H1 s.heap s1.heap := I.base
  have nx : ∀ b : Addr, b ∉ ([] : List Addr) := fun b z => by cases z
  refine wpAny_leaves_onW (base := B) fr rfl fl fun h' x1 x2 => ?_
  have bk : ∀ b o, s.heap.get? b = some o → H b = none → b ∉ frs outer → B.get? b = some o := fun b o e n hb => b1 b o (un0.keep b o e n hb (nx b)) (un0.free b o e n (nx b)) (I.notHere e hb)
  have bt : ∀ b o, s.heap.get? b = some o → b ∉ frs outer → ∃ o', B.get? b = some o' := fun b o e hb => by
    obtain ⟨o1, q1⟩ := un0.there b o e (nx b)
    exact b3 b o1 q1 (I.notHere e hb)
  have sub : ∀ b ∈ frs outer, b ∈ frs (cxE P w K mg base N qual scope f cd A outer s H E).stack := fun b hb => List.mem_cons_of_mem _ hb
  have frm : ∀ b ∈ frs outer, ∃ o, s'.heap.get? b = some o ∧ ∀ vs, o.data ≠ .fields vs := fun b hb => (frs_mem fl.2.2.1 (sub b hb)).2
  refine ⟨C, H', ⟨⟨ea, a0, B, rfl, x1, bk, bt, fun b o hn e => ?_⟩, F.os.trans I.os, F.bare, ?_, hok_stays F.hok b2 x1.1⟩, hE _ _ q⟩
  · obtain ⟨o1, z⟩ := F.hok.there hn
    have e2 := b2 b o1 hn z
    have e3 := x1.1 b o1 e2
    rw [e] at e3
    cases e3
    exact e2
  · refine ⟨fun b o e n hb _ => x1.1 b o (bk b o e n hb), fun b o e n hb _ => ?_, fun b o e n _ => ?_, fun b o e _ => ?_, fun b xs e => un1.tups b xs (un0.tups b xs e), fun b o xs e => un1.frzs b o xs (un0.frzs b o xs e), fun b ps e => ?_⟩
    · obtain ⟨sl1, e1⟩ := un0.slot b o e n hb (nx b)
      obtain ⟨sl2, e2⟩ := un1.any e1 (un0.free b o e n (nx b)) (nx b)
      obtain ⟨o3, e3, nf⟩ := frm b hb
      rw [e2] at e3
      cases e3
      obtain ⟨sl3, e4⟩ := x2 b _ e2 nf
      exact ⟨sl3, e4⟩
    · obtain ⟨o1, e1⟩ := un0.there b o e (nx b)
      exact un1.free b o1 e1 (un0.free b o e n (nx b)) (nx b)
    · by_cases hb : b ∈ frs outer
      · obtain ⟨o3, e3, nf⟩ := frm b hb
        obtain ⟨sl3, e4⟩ := x2 b _ e3 nf
        exact ⟨_, e4⟩
      · obtain ⟨o', q'⟩ := bt b o e hb
        exact ⟨o', x1.1 b o' q'⟩
    · obtain ⟨m1, e1⟩ := un0.tbls b ps e
      obtain ⟨m2, e2⟩ := un1.tbls b _ e1
      exact ⟨m1 ++ m2, by rw [e2, Array.append_assoc]⟩
theorem exc_obj {KF : PySem.W.Frag} {h : Heap} {C : Addr} {bmB : List Value} {newId : String} (XK : KF.In h) (q : PySem.W.excIn KF C bmB newId = true) :
    ∃ bm N nm qn bs hdct sn sub ab col dd k0 k1 k2 k3 k5 mN, h.get? C = some (excClassObj nm qn C N bs bm hdct sn sub ab col dd k0 k1 k2 k3 k5 newId) ∧ h.Ns N mN ∧ mN "__init__" = none ∧ OwnTail h bmB bm := by
  unfold PySem.W.excIn at q
  split at q
  · rename_i dd cd sl ho
    split at q
    · rename_i C' bm k0 k1 k2 k3 n k5 hm hs
      simp only [Bool.and_eq_true, beq_iff_eq, Bool.not_eq_true'] at q
      obtain ⟨⟨⟨⟨⟨rfl, rfl⟩, hdel⟩, ht⟩, hok⟩, hni⟩ := q
      obtain ⟨nm, bs, mro, ns, qn, hd, sn, sub, ab, col, del⟩ := cd
      dsimp only at hm hdel hok hni
      subst hm hdel
      have hsl : sl = #[k0, k1, k2, k3, some (.builtin n), k5] := by
        obtain ⟨l⟩ := sl
        simp only at hs
        rw [hs]
      subst hsl
      exact ⟨bm, ns, nm, qn, bs, hd, sn, sub, ab, col, dd, k0, k1, k2, k3, k5, _, XK _ _ ho, .of_isNs (PySem.W.isNs_of_in XK hok), PySem.W.nsMap_none_of_in XK hok hni, PySem.W.tail_of_in XK ht⟩
    · cases q
  · cases q
abbrev bmV : List Value := [.type "ValueError", .type "Exception", .type "BaseException", .type "object"]
theorem ps_raise {x : Str} {C : Addr} {np cpos pos cp : Pos} {txt : Str} {cj : Nat} (hm : mg x = some (.ref C)) (q : PySem.W.excIn K C bmV "ValueError.__new__" = true)
    (hg : Gl (cxE P w K mg base N qual scope f cd A outer s H E) x := by rfl) (hdb : (x == ("__debug__" : Str)) = false := by decide)
    (hs : starEach [.Constant (.str txt) cj cp] (cxE P w K mg base N qual scope f cd A outer s H E).env = (false, eval (.Constant (.str txt) cj cp) (cxE P w K mg base N qual scope f cd A outer s H E).env) :: starEach [] (cxE P w K mg base N qual scope f cd A outer s H E).env := by rfl) :
    PS (cxE P w K mg base N qual scope f cd A outer s H E) (.Raise (some (.Call (.Name x np) [.Constant (.str txt) cj cp] [] cpos)) none pos) (fun _ _ H1 => E (.ref C) none H1) := by
  intro pins s1 σ H1 D I h
  obtain ⟨bm, NS, nm, qn, bs, hdct, sn, sub, ab, col, dd, k0, k1, k2, k3, k5, mN, hC, hN, hni, T⟩ := exc_obj I.mod.kin q
  refine wpAny_Raise_call_subT (C := C) (nm := nm) (q := qn) (N := NS) (bs := bs) (bm := bm) (hdct := hdct) (sn := sn) (sub := sub) (ab := ab) (col := col) (dd := dd) (k0 := k0) (k1 := k1) (k2 := k2) (k3 := k3) (k5 := k5)
    PySem.F.excBase_ValueError (mN := mN) (T.hasType PySem.F.excBase_ValueError.hasBase) (I.ok.hd rfl) (by rw [hs]; rfl) hni (ld_glob I hg hm ⟨rfl, ?_⟩ hdb)
  have hA := (pa_cons (pe_str (X := cxE P w K mg base N qual scope f cd A outer s H E) (x := txt) (j := cj) (pos := cp)) pa_nil hs) cpos pins s1 σ H1 (fun vs H2 => vs.length = 1 ∧ H2 = H1) I ⟨rfl, rfl⟩
  rw [hs] at hA ⊢
  refine Calls.evalArgs_plain (wpAny_mono hA (fun vs s2 h2 => ?_) fun _ _ y => y)
  obtain ⟨us, H2, I2, r2, e1, e2⟩ := h2
  subst e2
  have hl := r2.length
  exact ⟨rfl, (by show vs.length ≤ sizeLine; rw [← hl, e1]; decide), I2.bk _ _ hC, hN.keeps I2.bk, T.keeps I2.bk, fun h' e hx => fly_made I2 hx h⟩
end
theorem Fun.okE {P : Program} {w : World} {K : PySem.W.Frag} {mg : Str → Option Value} {base : Heap} {x qual : Str} {st : Stmt} {f : Addr} {fd : FuncData} {N ps : List Str} {k : Nat} {sp : Sp} (F : Fun K x qual st f fd) (S : FnScope N ps (defScope st))
    (len : ∀ vs H Q E, sp vs H Q E → vs.length = ps.length)
    (hbody : ∀ (cdv : Value) (A : Around) (outer : List Env) (s : Shared) (H : Hp) (vs : List V) (Q : VK) (E : XK), Room k (A.deeper (envOfC qual (defScope st) s.heap.objs.size f cdv)) → sp vs H Q E →
      ∃ t, PSs (cxE P w K mg base N qual (defScope st) f cdv A outer s H E) (defBody st) t ∧ t { nx := fun _ H' => Q .non H', rt := Q } (start N vs) H) : FnOk P w K mg base (CXE P w) (k + 1) f fd ps sp := by
  obtain ⟨oc, od, kV, doc, pm, an, cdv, ct, osl, rfl, lk, hcd⟩ := F.ex
  exact fn_of lk hcd S len fun A outer s H vs Q E hr hsp => hbody cdv A outer s H vs Q E hr hsp
theorem PS.nox {X : Cx} {st : Stmt} {t : TS} (h : PS X.nox st t) : PS X st t := fun pins s σ H D I hw =>
  wpAny_mono (h pins s σ H D (I.wish _) hw) (fun f s' z => SP.unwish z) fun _ _ z => z.elim
end L2
namespace L2
open PySem PySem.Spec PyProof.Rows
def markCx (X : Cx) (v : Value) : Cx := { X with A := X.A.mark (some v), calm := false }
section
variable {X : Cx} {pins : List (Addr × Obj)} {σ : St} {H : Hp} {s : Shared} {v : Value}
theorem Inv.marked (I : Inv X pins σ H s) (v : Value) : Inv (markCx X v) pins σ H s :=
  ⟨⟨I.ok.mod, I.ok.kind, I.ok.glob, I.ok.blt, I.ok.above, I.ok.inj, I.ok.has, I.ok.cab, fun z => Bool.noConfusion z, I.ok.frames, I.ok.stk, I.ok.exf, I.ok.bs, I.ok.bsz, I.ok.noex, I.ok.exfs, I.ok.funs, I.ok.frf⟩, I.os, I.bare, I.base, I.loc, I.cell, I.free, I.freeC, I.pin, I.hok, I.len⟩
theorem Inv.unmarked (ok : X.Ok) (I : Inv (markCx X v) pins σ H s) : Inv X pins σ H s := ⟨ok, I.os, I.bare, I.base, I.loc, I.cell, I.free, I.freeC, I.pin, I.hok, I.len⟩
theorem SP.unmarked (ok : X.Ok) {D : Ends} {f : Flow} (h : SP (markCx X v) pins D f s) : SP X pins D f s := by
  cases f with
  | next => obtain ⟨σ', H', I, q⟩ := h; exact ⟨σ', H', I.unmarked ok, q⟩
  | brk => obtain ⟨σ', H', I, q⟩ := h; exact ⟨σ', H', I.unmarked ok, q⟩
  | cont => obtain ⟨σ', H', I, q⟩ := h; exact ⟨σ', H', I.unmarked ok, q⟩
  | ret u => obtain ⟨v', σ', H', I, r, q⟩ := h; exact ⟨v', σ', H', I.unmarked ok, r, q⟩
end
def PH (X : Cx) (C : Addr) (hs : List ExceptHandler) (th : TS) : Prop :=
  ∀ (pins : List (Addr × Obj)) (σ : St) (H : Hp) (s : Shared) (h5 : Heap) (tk : Nat) (D : Ends) (ea : Addr) (a0 : Value) (B : Heap), (∀ h6 tk', B.StaysIn h6 → s.heap.UpToSlots h6 → Inv X pins σ H { s with heap := h6, toks := tk' }) →
    Heap.FlyingW B X.stack ea (.ref C) a0 h5 → s.heap.UpToSlots h5 → th D σ H → wpAny (model X.prog X.w) X.A (handleBy (.ref ea) X.env hs) (SP X pins D) X.xe { s with heap := h5, toks := tk }
theorem ph_miss {X : Cx} {C Cx' : Addr} {x : Str} {np pos : Pos} {body : List Stmt} {rest : List ExceptHandler} {th : TS} (hm : X.mg x = some (.ref Cx')) (he : PySem.W.exmOne X.K (.ref C) (.ref Cx') = some false) (hr : PH X C rest th)
    (hg : Gl X x := by rfl) (hdb : (x == ("__debug__" : Str)) = false := by decide) : PH X C (.ExceptHandler (some (.Name x np)) none body pos :: rest) th := by
  intro pins σ H s h5 tk D ea a0 B K6 fl sl h
  have I5 := K6 h5 tk fl.1 sl
  obtain ⟨ob, hob, hobc⟩ := fl.there
  have LT : PySem.W.Looks (model X.prog X.w) h5 (typeOf (.ref ea)) (.ref C) := hobc ▸ (PySem.W.Looks.ld hob).andThen .now
  refine wpAny_handleBy_cons (codeAny_handlers_test (ld_glob (I5.marked (.ref ea)) hg hm ?_ hdb)) (by intro q; cases q)
  refine (PySem.W.exm_one I5.kIn LT he).at ?_
  exact hr pins σ H s h5 tk D ea a0 B K6 fl sl h
theorem ph_hit {X : Cx} {C Cx' : Addr} {x : Str} {np pos : Pos} {b0 : Stmt} {suite : List Stmt} {rest : List ExceptHandler} {th : TS} (hm : X.mg x = some (.ref Cx')) (he : PySem.W.exmOne X.K (.ref C) (.ref Cx') = some true)
    (hx : X.xe = fun _ _ => False) (hb : ∀ v, PSs (markCx X v) (b0 :: suite) th)
    (hg : Gl X x := by rfl) (hdb : (x == ("__debug__" : Str)) = false := by decide) : PH X C (.ExceptHandler (some (.Name x np)) none (b0 :: suite) pos :: rest) th := by
  intro pins σ H s h5 tk D ea a0 B K6 fl sl h
  have I5 := K6 h5 tk fl.1 sl
  obtain ⟨ob, hob, hobc⟩ := fl.there
  have LT : PySem.W.Looks (model X.prog X.w) h5 (typeOf (.ref ea)) (.ref C) := hobc ▸ (PySem.W.Looks.ld hob).andThen .now
  refine wpAny_handleBy_cons (codeAny_handlers_test (ld_glob (I5.marked (.ref ea)) hg hm ?_ hdb)) (by intro q; cases q)
  refine (PySem.W.exm_one I5.kIn LT he).at ?_
  refine codeAny_handlers_suite ?_
  refine lands_againW fl fun h6 fl6 sl6 => ?_
  have I6 := K6 h6 tk fl6.1 (sl.trans sl6)
  refine wpAny_mono (hb (.ref ea) pins _ σ H D (I6.marked (.ref ea)) h) (fun f s7 z => SP.unmarked I6.ok z) fun e s7 z => ?_
  have z' : X.xe e s7 := z
  rw [hx] at z'
  exact z'.elim
end L2
namespace L2
open PySem PySem.Spec PyProof.Rows
theorem pcallE {P : Program} {w : World} {K : PySem.W.Frag} {mg : Str → Option Value} {base : Heap} {N : List Str} {qual : Str} {scope : Scope} {f0 : Addr} {cd : Value} {A : Around} {outer : List Env} {s : Shared} {H : Hp} {E : XK}
    {k : Nat} {f : Addr} {fd : FuncData} {ps : List Str} {sp : Sp} {x : Str} {p pos : Pos} {e : Expr} {es : List Expr} {t : TA} (D : Df K mg x f fd ps) (G : FnOk P w K mg base (CXE P w) k f fd ps sp) (hr : Room k (cxE P w K mg base N qual scope f0 cd A outer s H E).A)
    (ha : PA (cxE P w K mg base N qual scope f0 cd A outer s H E) (e :: es) t) (hg : Gl (cxE P w K mg base N qual scope f0 cd A outer s H E) x := by rfl) (hdb : (x == ("__debug__" : Str)) = false := by decide)
    (he : starEach (e :: es) (cxE P w K mg base N qual scope f0 cd A outer s H E).env = (false, eval e (cxE P w K mg base N qual scope f0 cd A outer s H E).env) :: starEach es (cxE P w K mg base N qual scope f0 cd A outer s H E).env := by rfl)
    (hpl : (backTo pos (starEach es (cxE P w K mg base N qual scope f0 cd A outer s H E).env)).any (·.1) = false := by rfl) :
    PE (cxE P w K mg base N qual scope f0 cd A outer s H E) (.Call (.Name x p) (e :: es) [] pos) (tCall sp [] E t) := pe_call G hr hg D.m D.k D.b .nil (fly_pass fun _ _ z => z) ha hdb he hpl
end L2
namespace L2
open PySem PySem.Spec PyProof.Rows
section
variable {M : Model} {A : Around} {E : Value → Shared → Prop} {s : Shared}
theorem leave_held {base : Heap} {env : Env} {outer : List Env} {L e : Addr} {cls a0 : Value} {Q : Unit → Shared → Prop} (hf : env.frame = some L) (hh : Heap.HeldW base (env :: outer) e cls a0 L s.heap)
    (hQ : ∀ h', Heap.FlyingW base outer e cls a0 h' → s.heap.UpToSlots h' → Q () { s with heap := h' }) : wpAny M A (leaving env (.ref e)) Q E s := by
  unfold leaving
  refine wpAny_bind (wpAny_noteFrame_againW hf hh.2.2.2 ?_)
  refine wpAny_landsW hh fun h' fl sl => ?_
  obtain ⟨k1, k2, ⟨_, _, k3⟩, k4⟩ := fl
  exact hQ h' ⟨k1, k2, k3, k4⟩ sl
theorem back_at {base : Heap} {env : Env} {l : List Env} {L e : Addr} {cls a0 : Value} (hf : env.frame = some L) (hh : Heap.HeldW base l e cls a0 L s.heap)
    (h : ∀ h', Heap.HeldW base l e cls a0 L h' → s.heap.UpToSlots h' → E (.ref e) { s with heap := h' }) : cameBackBy M A env E (.ref e) s := by
  obtain ⟨f1, f2, f3, oe, vs, T, oT, ts, he, hcls, hd, h1, hnT, hTe, hT, hdT, h3⟩ := hh
  have n3 : 3 < ts.size := (Array.getElem?_eq_some_iff.mp h3).1
  have apart : ∀ b o, s.heap.get? b = some o → (∀ vs, o.data ≠ .fields vs) → b ≠ T := fun b o hb hnf q => by
    rw [q, hT] at hb
    cases hb
    exact hnf ts hdT
  unfold cameBackBy
  refine wpAny_bind (wpAny_field he hd h1 ?_)
  rw [if_neg (show ¬ ((Value.ref T == Value.none) = true) from by simp)]
  unfold setFlight
  refine wpAny_bind (wpAny_field he hd h1 ?_)
  rw [if_pos (show (Value.ref T != Value.none) = true from by simp), hf]
  refine wpAny_setField hT hdT n3 (h _ ⟨fun b o hbo => ?_, f2, f3.of_keeps fun b o hb hnf => ⟨o, (Heap.get?_update_other _ _ (Ne.symm (apart b o hb hnf))).trans hb, rfl⟩, ?_⟩ fun b o hb hnf => ⟨o.slots, (Heap.get?_update_other _ _ (Ne.symm (apart b o hb hnf))).trans hb⟩)
  · refine (Heap.get?_update_other _ _ fun q => ?_).trans (f1 b o hbo)
    rw [← q, hnT] at hbo
    cases hbo
  · exact ⟨oe, vs, T, _, _, (Heap.get?_update_other _ _ hTe).trans he, hcls, hd, h1, hnT, hTe, Heap.get?_update_self _ hT (Obj.isFreed_of_fields (Obj.data_mapFields hdT _)), Obj.data_mapFields hdT _, by simp [n3]⟩
theorem note_made {base h : Heap} {env : Env} {outer : List Env} {L e : Addr} {cls : Value} {args : List Value} {Q : Unit → Shared → Prop} (hfr : A.frames = some (env :: outer)) (hf : env.frame = some L) (hkb : base.StaysIn h) (hl : h.FunFrames base (env :: outer)) (hx : Heap.MadeExcOf h s.heap e cls args)
    (hQ : ∀ h' t, Heap.HeldW base (env :: outer) e cls (.ref t) L h' → s.heap.UpToSlots h' → Q () { s with heap := h' }) : wpAny M A (noteFrame (.ref e) env) Q E s := by
  obtain ⟨t, he, htn, ht⟩ := hx.there
  have fresh : ∀ b, h.get? b = none → base.get? b = none := fun b hb => by
    cases hq : base.get? b with
    | none => rfl
    | some o' =>
      have z := hkb b o' hq
      rw [hb] at z
      cases z
  unfold noteFrame
  simp only [hf]
  refine wpAny_bind (wpAny_field he rfl (x := .none) rfl ?_)
  rw [if_neg (by decide)]
  refine wpAny_entryW (a0 := .ref t) hfr (hl.of_keeps fun b o hb _ => ⟨o, hx.keeps b o hb, rfl⟩) hf he (fun b o hb => hx.keeps b o (hkb b o hb)) (fresh e hx.new) rfl (by simp) rfl fun h' hN => ?_
  obtain ⟨k1, k2, k3, k4⟩ := hN
  exact hQ h' t ⟨k1, fresh e hx.new, k2, k3⟩ k4
end
abbrev loopCx (X : Cx) : Cx := X.wish (notedBy (model X.prog X.w) X.A X.env (cameBackBy (model X.prog X.w) X.A X.env X.xe))
section
variable {P : Program} {w : World} {K : PySem.W.Frag} {mg : Str → Option Value} {base : Heap} {N : List Str} {qual : Str} {scope : Scope} {f : Addr} {cd : Value} {A : Around} {outer : List Env} {s : Shared} {H : Hp} {E : XK}
theorem Inv.unloop {X : Cx} {pins : List (Addr × Obj)} {σ : St} {H : Hp} {s : Shared} (I : Inv (loopCx X) pins σ H s) : Inv X pins σ H s := I.wish X.xe
theorem loop_made {pins : List (Addr × Obj)} {σ : St} {H1 : Hp} {s1 : Shared} {h2 : Heap} {e C : Addr} {vs : List Value} (I : Inv (cxE P w K mg base N qual scope f cd A outer s H E) pins σ H1 s1) (hx : Heap.MadeExcOf s1.heap h2 e (.ref C) vs) (q : E (.ref C) none H1) :
    notedBy (model P w) (cxE P w K mg base N qual scope f cd A outer s H E).A (cxE P w K mg base N qual scope f cd A outer s H E).env (cameBackBy (model P w) (cxE P w K mg base N qual scope f cd A outer s H E).A (cxE P w K mg base N qual scope f cd A outer s H E).env (cxE P w K mg base N qual scope f cd A outer s H E).xe) (.ref e) { s1 with heap := h2 } := by
  have fr := I.ok.frames
  have stk := I.stack
  have hin : ∀ env ∈ (cxE P w K mg base N qual scope f cd A outer s H E).stack, ∀ b, env.frame = some b → b ∈ frs (cxE P w K mg base N qual scope f cd A outer s H E).stack := fun env he b hb => List.mem_filterMap.mpr ⟨env, he, hb⟩
  have inB : ∀ b o, s1.heap.get? b = some o → b ∉ frs (cxE P w K mg base N qual scope f cd A outer s H E).stack → (PySem.W.hideAll s1.heap (frs (cxE P w K mg base N qual scope f cd A outer s H E).stack)).get? b = some o := fun b o e' hb => PySem.W.hideAll_get _ e' hb
  have trk : ∀ b o, H1 b ≠ none → s1.heap.get? b = some o → (PySem.W.hideAll s1.heap (frs (cxE P w K mg base N qual scope f cd A outer s H E).stack)).get? b = some o := fun b o hn e' => inB b o e' fun z => hn (I.stkFree b z)
  have bk : ∀ b o, s.heap.get? b = some o → H b = none → b ∉ frs outer → (PySem.W.hideAll s1.heap (frs (cxE P w K mg base N qual scope f cd A outer s H E).stack)).get? b = some o := fun b o e' n hb =>
    inB b o (I.base.keep b o e' n hb (by intro z; cases z)) (I.notHere e' hb)
  have bt : ∀ b o, s.heap.get? b = some o → b ∉ frs outer → ∃ o', (PySem.W.hideAll s1.heap (frs (cxE P w K mg base N qual scope f cd A outer s H E).stack)).get? b = some o' := fun b o e' hb => by
    obtain ⟨o', q'⟩ := I.base.there b o e' (by intro z; cases z)
    exact ⟨o', inB b o' q' (I.notHere e' hb)⟩
  refine note_made (base := PySem.W.hideAll s1.heap (frs (cxE P w K mg base N qual scope f cd A outer s H E).stack)) fr rfl (fun b o e' => PySem.W.of_hideAll _ e') (PySem.W.funFrames_hide stk hin) hx fun h4 t held4 sl4 => ?_
  refine back_at rfl held4 fun h5 held5 sl5 => ?_
  refine leave_held rfl held5 fun h' x1 sl6 => ?_
  have x4 := (sl4.trans sl5).trans sl6
  refine ⟨C, H1, ⟨⟨e, _, _, rfl, x1, bk, bt, fun b o hn e' => ?_⟩, I.os, I.bare, ?_, ?_⟩, q⟩
  · obtain ⟨o1, e1⟩ := I.hok.there hn
    have e2 := trk b o1 hn e1
    have e3 := x1.1 b o1 e2
    rw [e'] at e3
    cases e3
    exact e2
  · have u0 : Un (frs outer) [] H H1 s.heap h2 := Un.trans (show Un (frs outer) [] H H1 s.heap s1.heap from I.base) (Un.kept hx.keeps)
    exact un_slots (base := (PySem.W.hideAll s1.heap (frs (cxE P w K mg base N qual scope f cd A outer s H E).stack))) rfl u0 (((PySem.W.funFrames_hide stk hin).of_keeps fun b o hb _ => ⟨o, hx.keeps b o hb, rfl⟩).2.2) bk bt x1.1 x4
  · exact hok_stays I.hok trk x1.1
theorem loop_pass {E1 : XK} (hE : ∀ C H', E1 (.ref C) none H' → E (.ref C) none H') {pins : List (Addr × Obj)} {σ : St} {H1 : Hp} {s1 : Shared} {e : Value} {s' : Shared} (I : Inv (cxE P w K mg base N qual scope f cd A outer s H E) pins σ H1 s1) (h : CXE P w (cxE P w K mg base N qual scope f cd A outer s H E).stack H1 s1 E1 e s') :
    notedBy (model P w) (cxE P w K mg base N qual scope f cd A outer s H E).A (cxE P w K mg base N qual scope f cd A outer s H E).env (cameBackBy (model P w) (cxE P w K mg base N qual scope f cd A outer s H E).A (cxE P w K mg base N qual scope f cd A outer s H E).env (cxE P w K mg base N qual scope f cd A outer s H E).xe) e s' := by
  obtain ⟨C, H', F, q⟩ := h
  obtain ⟨ea, a0, B, rfl, fl, b1, b3, b2⟩ := F.ex
  have fr := I.ok.frames
  have un1 := F.un
  have un0 : Un (frs outer) [] H H1 s.heap s1.heap := I.base
  have nx : ∀ b : Addr, b ∉ ([] : List Addr) := fun b z => by cases z
  refine wpAny_looks_onW (base := B) fr rfl fl fun h4 held4 sl4 => ?_
  refine back_at rfl held4 fun h5 held5 sl5 => ?_
  refine leave_held rfl held5 fun h' x1 sl6 => ?_
  have x2 := (sl4.trans sl5).trans sl6
  have bk : ∀ b o, s.heap.get? b = some o → H b = none → b ∉ frs outer → B.get? b = some o := fun b o e n hb => b1 b o (un0.keep b o e n hb (nx b)) (un0.free b o e n (nx b)) (I.notHere e hb)
  have bt : ∀ b o, s.heap.get? b = some o → b ∉ frs outer → ∃ o', B.get? b = some o' := fun b o e hb => by
    obtain ⟨o1, q1⟩ := un0.there b o e (nx b)
    exact b3 b o1 q1 (I.notHere e hb)
  have sub : ∀ b ∈ frs outer, b ∈ frs (cxE P w K mg base N qual scope f cd A outer s H E).stack := fun b hb => List.mem_cons_of_mem _ hb
  have frm : ∀ b ∈ frs outer, ∃ o, s'.heap.get? b = some o ∧ ∀ vs, o.data ≠ .fields vs := fun b hb => (frs_mem fl.2.2.1 (sub b hb)).2
  refine ⟨C, H', ⟨⟨ea, a0, B, rfl, x1, bk, bt, fun b o hn e => ?_⟩, F.os.trans I.os, F.bare, ?_, hok_stays F.hok b2 x1.1⟩, hE _ _ q⟩
  · obtain ⟨o1, z⟩ := F.hok.there hn
    have e2 := b2 b o1 hn z
    have e3 := x1.1 b o1 e2
    rw [e] at e3
    cases e3
    exact e2
  · refine ⟨fun b o e n hb _ => x1.1 b o (bk b o e n hb), fun b o e n hb _ => ?_, fun b o e n _ => ?_, fun b o e _ => ?_, fun b xs e => un1.tups b xs (un0.tups b xs e), fun b o xs e => un1.frzs b o xs (un0.frzs b o xs e), fun b ps e => ?_⟩
    · obtain ⟨sl1, e1⟩ := un0.slot b o e n hb (nx b)
      obtain ⟨sl2, e2⟩ := un1.any e1 (un0.free b o e n (nx b)) (nx b)
      obtain ⟨o3, e3, nf⟩ := frm b hb
      rw [e2] at e3
      cases e3
      obtain ⟨sl3, e4⟩ := x2 b _ e2 nf
      exact ⟨sl3, e4⟩
    · obtain ⟨o1, e1⟩ := un0.there b o e (nx b)
      exact un1.free b o1 e1 (un0.free b o e n (nx b)) (nx b)
    · by_cases hb : b ∈ frs outer
      · obtain ⟨o3, e3, nf⟩ := frm b hb
        obtain ⟨sl3, e4⟩ := x2 b _ e3 nf
        exact ⟨_, e4⟩
      · obtain ⟨o', q'⟩ := bt b o e hb
        exact ⟨o', x1.1 b o' q'⟩
    · obtain ⟨m1, e1⟩ := un0.tbls b ps e
      obtain ⟨m2, e2⟩ := un1.tbls b _ e1
      exact ⟨m1 ++ m2, by rw [e2, Array.append_assoc]⟩
theorem ps_raiseL {x : Str} {C : Addr} {np cpos pos cp : Pos} {txt : Str} {cj : Nat} (hm : mg x = some (.ref C)) (q : PySem.W.excIn K C bmV "ValueError.__new__" = true)
    (hg : Gl (loopCx (cxE P w K mg base N qual scope f cd A outer s H E)) x := by rfl) (hdb : (x == ("__debug__" : Str)) = false := by decide)
    (hs : starEach [.Constant (.str txt) cj cp] (loopCx (cxE P w K mg base N qual scope f cd A outer s H E)).env = (false, eval (.Constant (.str txt) cj cp) (loopCx (cxE P w K mg base N qual scope f cd A outer s H E)).env) :: starEach [] (loopCx (cxE P w K mg base N qual scope f cd A outer s H E)).env := by rfl) :
    PS (loopCx (cxE P w K mg base N qual scope f cd A outer s H E)) (.Raise (some (.Call (.Name x np) [.Constant (.str txt) cj cp] [] cpos)) none pos) (fun _ _ H1 => E (.ref C) none H1) := by
  intro pins s1 σ H1 D I h
  obtain ⟨bm, NS, nm, qn, bs, hdct, sn, sub, ab, col, dd, k0, k1, k2, k3, k5, mN, hC, hN, hni, T⟩ := exc_obj I.mod.kin q
  refine wpAny_Raise_call_subT (C := C) (nm := nm) (q := qn) (N := NS) (bs := bs) (bm := bm) (hdct := hdct) (sn := sn) (sub := sub) (ab := ab) (col := col) (dd := dd) (k0 := k0) (k1 := k1) (k2 := k2) (k3 := k3) (k5 := k5)
    PySem.F.excBase_ValueError (mN := mN) (T.hasType PySem.F.excBase_ValueError.hasBase) (I.ok.hd rfl) (by rw [hs]; rfl) hni (ld_glob I hg hm ⟨rfl, ?_⟩ hdb)
  have hA := (pa_cons (pe_str (X := loopCx (cxE P w K mg base N qual scope f cd A outer s H E)) (x := txt) (j := cj) (pos := cp)) pa_nil hs) cpos pins s1 σ H1 (fun vs H2 => vs.length = 1 ∧ H2 = H1) I ⟨rfl, rfl⟩
  rw [hs] at hA ⊢
  refine Calls.evalArgs_plain (wpAny_mono hA (fun vs s2 h2 => ?_) fun _ _ y => y)
  obtain ⟨us, H2, I2, r2, e1, e2⟩ := h2
  subst e2
  have hl := r2.length
  exact ⟨rfl, (by show vs.length ≤ sizeLine; rw [← hl, e1]; decide), I2.bk _ _ hC, hN.keeps I2.bk, T.keeps I2.bk, fun h' e hx => loop_made I2.unloop hx h⟩
theorem pcallL {k : Nat} {f0 : Addr} {fd : FuncData} {ps : List Str} {sp : Sp} {x : Str} {p pos : Pos} {e : Expr} {es : List Expr} {t : TA} (D : Df K mg x f0 fd ps) (G : FnOk P w K mg base (CXE P w) k f0 fd ps sp) (hr : Room k (loopCx (cxE P w K mg base N qual scope f cd A outer s H E)).A)
    (ha : PA (loopCx (cxE P w K mg base N qual scope f cd A outer s H E)) (e :: es) t) (hg : Gl (loopCx (cxE P w K mg base N qual scope f cd A outer s H E)) x := by rfl) (hdb : (x == ("__debug__" : Str)) = false := by decide)
    (he : starEach (e :: es) (loopCx (cxE P w K mg base N qual scope f cd A outer s H E)).env = (false, eval e (loopCx (cxE P w K mg base N qual scope f cd A outer s H E)).env) :: starEach es (loopCx (cxE P w K mg base N qual scope f cd A outer s H E)).env := by rfl)
    (hpl : (backTo pos (starEach es (loopCx (cxE P w K mg base N qual scope f cd A outer s H E)).env)).any (·.1) = false := by rfl) :
    PE (loopCx (cxE P w K mg base N qual scope f cd A outer s H E)) (.Call (.Name x p) (e :: es) [] pos) (tCall sp [] E t) :=
  pe_call G hr hg D.m D.k D.b .nil (fun pins σ H1 s1 e s' I h => loop_pass (fun _ _ z => z) I.unloop h) ha hdb he hpl
end
theorem ps_forL {X : Cx} {tg iter : Expr} {body : List Stmt} {wi : TI} {g : TG} {tb : TS} {pos : Pos} (hc : X.calm = true) (hi : PI X tg iter wi) (hg : PG (loopCx X) tg g) (hb : PSs (loopCx X) body tb)
    (hs : ∀ x, foldedSetIterable iter X.env x = pure x := by intro _; rfl) : PS X (.For tg iter body [] pos) (tFor wi g tb) := by
  intro pins s σ H D I h
  refine wpAny_For (thn (hi pins s σ H _ I h) fun v s1 h1 => thn h1 fun itv s2 h2 => ?_) hs
  obtain ⟨it, fp, tn, J, H2, e, I2, T, st2, f2, W, ⟨m0, w0⟩, turn⟩ := h2
  subst e
  have stat : ∀ {H' : Hp}, (∀ b ∈ fp, H' b = none) → ∀ b ∈ fp, FpOk X pins H' b := fun hn b hb => ⟨hn b hb, (f2 b hb).2⟩
  refine codeAny_forLoop_any (fun n s' => ∃ i σ' H', Inv X pins σ' H' s' ∧ tn i s'.heap ∧ (∀ b ∈ fp, H' b = none) ∧ W i n σ' H') ?_ m0 ⟨0, σ, H2, I2, st2, fun b hb => (f2 b hb).1, w0⟩
  rintro n s3 ⟨i, σ3, H3, I3, st3, fr3, w3⟩
  rcases turn i n σ3 H3 w3 with ⟨stop, qn⟩ | ⟨go, Nn, hN, step⟩
  · refine thn (T.done X rfl rfl rfl hc i pins s3 σ3 H3 _ I3 (stat fr3) st3 stop) fun r s4 ⟨hr, I4⟩ => ?_
    subst hr
    exact wpAny_execs_nil ⟨σ3, H3, I4, qn⟩
  · refine thn (T.item X rfl rfl rfl hc i pins s3 σ3 H3 _ I3 (stat fr3) st3 go) fun r s4 ⟨u, hr, h4⟩ => ?_
    subst hr
    refine thn h4 fun _ s5 ⟨x, H5, I5, r5, y5, st5, fr5⟩ => ?_
    have I5' := I5.pinned (stat fr5) (T.obj _ _ st5)
    refine thn (hg _ s5 σ3 H5 x u _ (I5'.wish _) r5 (step x H5 y5)) fun _ s6 ⟨σ6, H6, I6, q6⟩ => ?_
    refine thn (hb _ s6 σ6 H6 _ I6 q6) fun f s7 q7 => ?_
    have again : ∀ {σ7 : St} {H7 : Hp}, Inv X (pins ++ pinsAt fp s5.heap) σ7 H7 s7 → Nn σ7 H7 → ∃ m, m < n ∧ ∃ i σ' H', Inv X pins σ' H' s7 ∧ tn i s7.heap ∧ (∀ b ∈ fp, H' b = none) ∧ W i m σ' H' := fun {σ7 H7} I7 n7 => by
      obtain ⟨m', hm, w7⟩ := hN σ7 H7 n7
      refine ⟨m', hm, i + 1, σ7, H7, I7.unpinned, T.keep _ _ _ st5 fun b hb o e => (I7.pin (b, o) (List.mem_append_right _ (List.mem_append_right _ (mem_pinsAt hb e)))).1, fun b hb => ?_, w7⟩
      obtain ⟨o, e, d⟩ := T.obj _ _ st5 b hb
      exact (I7.pin (b, o) (List.mem_append_right _ (List.mem_append_right _ (mem_pinsAt hb e)))).2.1
    cases f with
    | next => obtain ⟨σ7, H7, I7, n7⟩ := q7; exact again I7.unloop n7
    | cont => obtain ⟨σ7, H7, I7, n7⟩ := q7; exact again I7.unloop n7
    | brk => obtain ⟨σ7, H7, I7, q7⟩ := q7; exact ⟨σ7, H7, I7.unloop.unpinned, q7⟩
    | ret v => obtain ⟨x7, σ7, H7, I7, r7, q7⟩ := q7; exact ⟨x7, σ7, H7, I7.unloop.unpinned, r7, q7⟩
end L2
namespace L2
open PySem PySem.Spec PyProof.Rows
structure ExcK (K : PySem.W.Frag) (D : Addr) : Prop where
  cls : (PySem.W.clsIn K D).isSome = true
  ga : PySem.W.findIn K (.ref D) "__getattribute__" = some (some (.builtin "BaseException.__getattribute__"))
  hk : PySem.W.findIn K (.ref D) "__getattr__" = some none
  cl : PySem.W.findIn K (.ref D) "__class__" = some (some (.builtin "object.__class__"))
  mo : PySem.W.mroIn K D (.type "object") = some true
  mb : PySem.W.mroIn K D (.type "BaseException") = some true
section
variable {prog : Program} {w : World} {A : Around} {E : Value → Shared → Prop} {h : Heap} {g : Array GenState} {d : Drawn} {t : Nat} {os : OsState} {a D : Addr} {o : Obj} {K : PySem.W.Frag}
theorem class_get_exc {R : Result → Shared → Prop} (X : K.In h) (Z : ExcK K D) (hx : h.get? a = some o) (hc : o.cls = .ref D) (hq : R (.ok (.ret (.ref D))) ⟨h, g, d, t, os⟩) :
    codeAny (model prog w) A (.call (.builtin "getset_descriptor.__get__") ⟨[.builtin "object.__class__", .ref a, .ref D], []⟩) R ⟨h, g, d, t, os⟩ := by
  have hT5 : (⟨h, g, d, t, os⟩ : Shared).TypeIs (.builtin "object.__class__") "getset_descriptor" := PySem.F.typeOf_object_class
  have L1 : PySem.W.Looks (model prog w) h (isSubtype (.ref D) (.type (".".intercalate ("object.__class__".cutAt '.').dropLast))) true := by
    rw [PySem.F.owner_object_class]; exact PySem.W.looks_mroIn X Z.mo
  refine codeAny_call_builtin PySem.F.slot_gs_get.plain PySem.F.entry_gs_get (PySem.F.slot_gs_get.check _ _ _ _ _ _ _ _ hT5 (PySem.F.args_gs_get _ _ _) ?_)
  repeat (any_goals (first | assumption | (with_reducible refine wpAny_loadPart_at hx ?_; rw [hc]) | with_reducible refine L1.at ?_ | wp_step))
  refine ⟨Code.quiet_builtin _ (by decide +kernel), codeAny_builtin PySem.F.entry_object_class ?_⟩
  repeat (any_goals (first | assumption | (with_reducible refine wpAny_loadPart_at hx ?_; rw [hc]) | wp_step))
theorem check_ga_exc {M : Model} {nameV : Value} {Q : Unit → Shared → Prop} (X : K.In h) (Z : ExcK K D) (hx : h.get? a = some o) (hc : o.cls = .ref D) (hq : Q () ⟨h, g, d, t, os⟩) :
    wpAny M A (checkBuiltinCall "BaseException.__getattribute__" ⟨[.ref a, nameV], []⟩) Q E ⟨h, g, d, t, os⟩ := by
  have hk : builtinKind "BaseException.__getattribute__" = some .slot := by decide +kernel
  have hsplit : splitId "BaseException.__getattribute__" = some ("BaseException", "__getattribute__") := by decide +kernel
  have L1 : PySem.W.Looks M h (isSubtype (.ref D) (.type "BaseException")) true := PySem.W.looks_mroIn X Z.mb
  have ha := PySem.F.args_bexc_ga (.ref a) nameV
  simp only [checkBuiltinCall, hk, hsplit]
  refine wpAny_bind ?_
  · unfold isInstance
    repeat (first | (with_reducible refine wpAny_loadPart_at hx ?_; rw [hc]) | with_reducible refine L1.at ?_ | wp_step)
    exact hq
theorem class_entry_exc {tk : Tok} {Q : Fin → Shared → Prop} (X : K.In h) (Z : ExcK K D) (hx : h.get? a = some o) (hc : o.cls = .ref D) (hq : Q (.done (.ret (.ref D))) ⟨h, g, d, t, os⟩) :
    wpAny (model prog w) A (Builtin.«object.__getattribute__» ⟨[.ref a, .str "__class__" tk], []⟩) Q E ⟨h, g, d, t, os⟩ := by
  have hT5 : (⟨h, g, d, t, os⟩ : Shared).TypeIs (.builtin "object.__class__") "getset_descriptor" := PySem.F.typeOf_object_class
  have L4 : PySem.W.Looks (model prog w) h (typeLookup (.ref D) "__class__") (some (.builtin "object.__class__")) := PySem.W.looks_findIn X Z.cl
  have f5 := PySem.F.typeOf_object_class
  have f6 := PySem.F.slot_gs_get.lookup
  have f7 := PySem.F.slot_gs_set.lookup
  repeat (any_goals (first | assumption | (with_reducible refine wpAny_loadPart_at hx ?_; rw [hc]) | with_reducible refine L4.at ?_ | wp_step))
  refine class_get_exc X Z hx hc ?_
  repeat (any_goals (first | assumption | wp_step))
theorem class_call_exc {tk : Tok} {R : Result → Shared → Prop} (X : K.In h) (Z : ExcK K D) (hx : h.get? a = some o) (hc : o.cls = .ref D) (hq : R (.ok (.ret (.ref D))) ⟨h, g, d, t, os⟩) :
    codeAny (model prog w) A (.call (.builtin "BaseException.__getattribute__") ⟨[.ref a, .str "__class__" tk], []⟩) R ⟨h, g, d, t, os⟩ :=
  codeAny_call_builtin PySem.F.attr_ValueError.ga.plain PySem.F.entry_bexc_ga (check_ga_exc X Z hx hc (class_entry_exc X Z hx hc hq))
theorem class_by_exc {tk : Tok} {Q : Value → Shared → Prop} (X : K.In h) (Z : ExcK K D) (hx : h.get? a = some o) (hc : o.cls = .ref D) (hq : Q (.ref D) ⟨h, g, d, t, os⟩) :
    wpAny (model prog w) A (getAttrBy (.ref a) (.str "__class__" tk) false) Q E ⟨h, g, d, t, os⟩ := by
  have f3 : bindSpecial (.builtin "BaseException.__getattribute__") (.ref a) = pure (.builtin "BaseException.__getattribute__", [.ref a]) := PySem.F.attr_ValueError.ga.bind (.ref a)
  have hx2 : (Value.builtin "BaseException.__getattribute__" == Value.builtin "object.__getattribute__") = false := by decide +kernel
  have hx1 : (onTheHeap (Value.ref D) && Value.builtin "BaseException.__getattribute__" == Value.builtin "object.__getattribute__") = false := by rw [hx2]; rfl
  have L1 : PySem.W.Looks (model prog w) h (typeLookup (.ref D) "__getattribute__") (some (.builtin "BaseException.__getattribute__")) := PySem.W.looks_findIn X Z.ga
  have L2 : PySem.W.Looks (model prog w) h (typeLookup (.ref D) "__getattr__") none := PySem.W.looks_findIn X Z.hk
  repeat (any_goals (first | assumption | (with_reducible refine wpAny_loadPart_at hx ?_; rw [hc]) | with_reducible refine L1.at ?_ | with_reducible refine L2.at ?_ | wp_step))
  refine class_call_exc X Z hx hc ?_
  repeat (any_goals (first | assumption | wp_step))
theorem class_attr_exc {Q : Option Value → Shared → Prop} (X : K.In h) (Z : ExcK K D) (hx : h.get? a = some o) (hc : o.cls = .ref D) (hq : Q (some (.ref D)) ⟨h, g, d, t + 1, os⟩) :
    wpAny (model prog w) A (getAttr? (.ref a) "__class__") Q E ⟨h, g, d, t, os⟩ := by
  unfold getAttr? getAttrBy?
  repeat (any_goals (first | assumption | with_reducible apply class_by_exc X Z hx hc | wp_step))
theorem kitx_exc (Z : ExcK K D) (hc : o.cls = .ref D) : PySem.W.KitX K (.ref a) (.ref D) (fun h => h.get? a = some o) where
  ty := fun _ _ _ I => hc ▸ (PySem.W.Looks.ld I).andThen .now
  it := fun _ _ X _ => by
    have z0 := Z.cls
    unfold PySem.W.clsIn at z0
    split at z0
    · rename_i c' d' cd' sl' ho
      intro A' Q' E' s' k q
      unfold isType loadHead
      exact wpAny_bind (wpAny_loadPart (k _ _ (X _ _ ho)) (wpAny_pure q))
    · cases z0
  ne := fun h tp dd its n sl X htp => by
    have z0 := Z.cls
    refine Bool.eq_false_iff.mpr fun q => ?_
    have e : D = tp := Value.ref.inj (beq_iff_eq.mp q)
    subst e
    unfold PySem.W.clsIn at z0
    split at z0
    · rename_i c' d' cd' sl' ho
      have z := (X _ _ ho).symm.trans htp
      cases z
    · cases z0
  ca := fun {_ _ _ _ _ s} X I k => by obtain ⟨h, g, d, t, os⟩ := s; exact class_attr_exc X Z I hc k
end
end L2
namespace L2
open PySem PySem.Spec PyProof.Rows
theorem FnOk.calm {P : Program} {w : World} {K : PySem.W.Frag} {mg : Str → Option Value} {base : Heap} {CX : CXT} {k : Nat} {f : Addr} {fd : FuncData} {ps : List Str} {sp : Sp} (F : FnOk P w K mg base CX0 k f fd ps sp) : FnOk P w K mg base CX k f fd ps sp :=
  ⟨F.len, fun A outer s H args us vs Q E hr he hb hv hs => codeAny_mono (F.run A outer s H args us vs Q E hr he hb hv hs) fun r s' z => by
    cases r with
    | ok fl => cases fl <;> exact z
    | error e => exact False.elim z⟩
theorem FnOk.or {P : Program} {w : World} {K : PySem.W.Frag} {mg : Str → Option Value} {base : Heap} {CX : CXT} {k : Nat} {f : Addr} {fd : FuncData} {ps : List Str} {sp sp' sq : Sp} (F : FnOk P w K mg base CX k f fd ps sp) (G : FnOk P w K mg base CX k f fd ps sp')
    (h : ∀ vs H Q E, sq vs H Q E → sp vs H Q E ∨ sp' vs H Q E) : FnOk P w K mg base CX k f fd ps sq :=
  ⟨fun vs H Q E q => (h _ _ _ _ q).elim (F.len vs H Q E) (G.len vs H Q E), fun A outer s H args us vs Q E hr he hb hv hs => (h _ _ _ _ hs).elim (F.run A outer s H args us vs Q E hr he hb hv) (G.run A outer s H args us vs Q E hr he hb hv)⟩
def PHE (X : Cx) (C : Addr) (hs : List ExceptHandler) (th : TS) : Prop :=
  ∀ (pins : List (Addr × Obj)) (σ : St) (H : Hp) (s : Shared) (h5 : Heap) (tk : Nat) (D : Ends) (ea : Addr) (a0 : Value) (B : Heap), H ea = none → (∀ h6 tk', B.StaysIn h6 → s.heap.UpToSlots h6 → Inv X pins σ H { s with heap := h6, toks := tk' }) →
    Heap.FlyingW B X.stack ea (.ref C) a0 h5 → s.heap.UpToSlots h5 → th D σ H → wpAny (model X.prog X.w) X.A (handleBy (.ref ea) X.env hs) (SP X pins D) X.xe { s with heap := h5, toks := tk }
theorem PH.e {X : Cx} {C : Addr} {hs : List ExceptHandler} {th : TS} (h : PH X C hs th) : PHE X C hs th := fun pins σ H s h5 tk D ea a0 B _ K6 fl sl q => h pins σ H s h5 tk D ea a0 B K6 fl sl q
abbrev tryCx (X : Cx) (pn : List (Addr × Obj)) (E : Value → Shared → Prop) : Cx := { X with pn := pn, xe := E }
theorem Inv.intoTry {X : Cx} {pins : List (Addr × Obj)} {σ : St} {H : Hp} {s : Shared} (I : Inv X pins σ H s) (E : Value → Shared → Prop) : Inv (tryCx X (X.pn ++ pins) E) [] σ H s :=
  ⟨⟨I.ok.mod, I.ok.kind, I.ok.glob, I.ok.blt, I.ok.above, I.ok.inj, I.ok.has, I.ok.cab, I.ok.hd, I.ok.frames, I.ok.stk, I.ok.exf, I.ok.bs, I.ok.bsz, I.ok.noex, I.ok.exfs, I.ok.funs, I.ok.frf⟩, I.os, I.bare, I.base, I.loc, I.cell, I.free, I.freeC, fun p hp => I.pin p (by rw [List.append_nil] at hp; exact hp), I.hok, I.len⟩
theorem Inv.outTry {X : Cx} {pins pins' : List (Addr × Obj)} {σ : St} {H : Hp} {s : Shared} {E : Value → Shared → Prop} (ok : X.Ok) (I : Inv (tryCx X (X.pn ++ pins) E) pins' σ H s) : Inv X pins σ H s :=
  ⟨ok, I.os, I.bare, I.base, I.loc, I.cell, I.free, I.freeC, fun p hp => I.pin p (List.mem_append_left _ hp), I.hok, I.len⟩
theorem SP.outTry {X : Cx} {pins pins' : List (Addr × Obj)} {s : Shared} {E : Value → Shared → Prop} (ok : X.Ok) {D : Ends} {f : Flow} (h : SP (tryCx X (X.pn ++ pins) E) pins' D f s) : SP X pins D f s := by
  cases f with
  | next => obtain ⟨σ', H', I, q⟩ := h; exact ⟨σ', H', I.outTry ok, q⟩
  | brk => obtain ⟨σ', H', I, q⟩ := h; exact ⟨σ', H', I.outTry ok, q⟩
  | cont => obtain ⟨σ', H', I, q⟩ := h; exact ⟨σ', H', I.outTry ok, q⟩
  | ret u => obtain ⟨v', σ', H', I, r, q⟩ := h; exact ⟨v', σ', H', I.outTry ok, r, q⟩
def tTryB (X : Cx) (hs : List ExceptHandler) (tb : XK → TS) : TS := fun D σ H => tb (fun c _ H2 => ∃ C th, c = .ref C ∧ PHE X.nox C hs th ∧ ∀ σ' : St, σ'.length = X.N.length → th D σ' H2) D σ H
theorem ps_tryB {X : Cx} {body : List Stmt} {h0 : ExceptHandler} {hs : List ExceptHandler} {pos : Pos} {tb : XK → TS} (hstk : X.stack = X.env :: X.outer) (hfr : X.env.frame = some X.env.locals)
    (hb : ∀ (pn : List (Addr × Obj)) (xe : Value → Shared → Prop) (E : XK), Passes (CXE X.prog X.w) (tryCx X pn xe) E → PSs (tryCx X pn xe) body (tb E)) :
    PS X.nox (.Try body (h0 :: hs) [] [] pos) (tTryB X (h0 :: hs) tb) := by
  intro pins s σ H D I h
  refine wpAny_Try_except ?_
  refine wpAny_mono (hb (X.pn ++ pins) (fun e s₁ => wpAny (model X.prog X.w) X.A (noteFrame e X.env) (fun _ s₂ => wpAny (model X.prog X.w) X.A (setFlight e none) (fun _ s₃ => wpAny (model X.prog X.w) X.A (handleBy e X.env (h0 :: hs)) (SP X.nox pins D) (fun _ _ => False) s₃) (fun _ _ => False) s₂) (fun _ _ => False) s₁) _ ?_ [] s σ H D (Inv.intoTry (X := X) (I.wish X.xe) _) h) (fun f s1 q => ?_) fun _ _ z => z
  · intro pins1 σ1 H1 s1 e s' I1 hq
    obtain ⟨C, H', F, C', th, e1, hP, hth⟩ := hq
    cases e1
    obtain ⟨ea, a0, B, rfl, fl, b1, b3, b2⟩ := F.ex
    have I1' : Inv X.nox pins σ1 H1 s1 := (Inv.outTry (X := X) (I.wish X.xe).ok I1).wish _
    have fl' : Heap.FlyingW B (X.env :: X.outer) ea (.ref C) a0 s'.heap := by rw [← hstk]; exact fl
    have hfrm : X.A.frames = some (X.env :: X.outer) := by rw [← hstk]; exact I.ok.frames
    have K6 : ∀ h6 tk', B.StaysIn h6 → s'.heap.UpToSlots h6 → Inv X.nox pins σ1 H' { s' with heap := h6, toks := tk' } := fun h6 tk' st sl => by
      have un : Un (frs X.nox.stack) [] H1 H' s1.heap h6 := un_slots (base := B) rfl F.un fl.2.2.1 b1 b3 st sl
      have hok : HOk X.prog X.w H' h6 := hok_stays F.hok b2 st
      obtain ⟨hh, gg, dd, tt, os'⟩ := s'
      obtain rfl : os' = s1.os := F.os
      exact Inv.call (s := s1) I1' (h' := h6) (g' := gg) (d' := dd) (t' := tk') (ch := []) un hok F.bare (fun b z => absurd z (by simp))
    have hea : H' ea = none := by
      cases hz : H' ea with
      | none => rfl
      | some u =>
        obtain ⟨ob, hob⟩ := F.hok.there (a := ea) (by rw [hz]; simp)
        have z := b2 ea ob (by rw [hz]; simp) hob
        rw [fl.2.1] at z
        cases z
    refine wpAny_looks_onW hfrm hfr fl' fun h4 hheld sl4 => ?_
    refine wpAny_landsW hheld fun h5 fl5 sl5 => ?_
    exact hP pins σ1 H' s' h5 s'.toks D ea a0 B hea K6 (by rw [← hstk] at fl5; exact fl5) (sl4.trans sl5) (hth σ1 I1.len)
  · have q' : SP X.nox pins D f s1 := by
      have q2 := SP.outTry (X := X) (I.wish X.xe).ok q
      exact SP.unwish q2
    cases f with
    | next => exact wpAny_execs_nil q'
    | brk => exact q'
    | cont => exact q'
    | ret u => exact q'
def asCx (X : Cx) (ea : Addr) (oe : Obj) : Cx := { X with A := X.A.mark (some (.ref ea)), calm := false, pn := (ea, oe) :: X.pn }
def tAs (i : Nat) (tb : Addr → TS) : TS := fun D σ H => ∀ ea, H ea = none → tb ea { nx := fun _ _ => False, rt := D.rt } (σ.set i (some (.ref ea))) H
theorem ph_as {X : Cx} {C Cx' : Addr} {x n : Str} {i : Nat} {np pos : Pos} {b0 : Stmt} {suite : List Stmt} {rest : List ExceptHandler} {tb : Addr → TS} (hm : X.mg x = some (.ref Cx')) (he : PySem.W.exmOne X.K (.ref C) (.ref Cx') = some true)
    (hx : X.xe = fun _ _ => False) (hstk : X.stack = X.env :: X.outer) (hfr : X.env.frame = some X.env.locals) (hN : X.N.Nodup) (hi : X.N[i]? = some n) (hl : X.env.kindOf n = some .local) (hlk : X.env.scope.names.lookup n = some .local)
    (hb : ∀ (ea : Addr) (oe : Obj), oe.cls = .ref C → PSs (asCx X ea oe) (b0 :: suite) (tb ea))
    (hg : Gl X x := by rfl) (hdb : (x == ("__debug__" : Str)) = false := by decide) : PHE X C (.ExceptHandler (some (.Name x np)) (some n) (b0 :: suite) pos :: rest) (tAs i tb) := by
  intro pins σ H s h5 tk D ea a0 B hea K6 fl sl h
  have I5 := K6 h5 tk fl.1 sl
  obtain ⟨ob, hob, hobc⟩ := fl.there
  have LT : PySem.W.Looks (model X.prog X.w) h5 (typeOf (.ref ea)) (.ref C) := hobc ▸ (PySem.W.Looks.ld hob).andThen .now
  refine wpAny_handleBy_cons (codeAny_handlers_test (ld_glob (I5.marked (.ref ea)) hg hm ?_ hdb)) (by intro q; cases q)
  refine (PySem.W.exm_one I5.kIn LT he).at ?_
  refine codeAny_handlers_suite_as ?_
  refine lands_againW fl fun h6 fl6 sl6 => ?_
  have I6 := K6 h6 tk fl6.1 (sl.trans sl6)
  obtain ⟨_, fl6n, fl6f, oe, vs, T, oT, ts, he6, hc6, hd6, _⟩ := fl6
  have notFr : ∀ b ∈ frs X.stack, b ≠ ea := fun b hb z => by
    obtain ⟨_, o1, e1, nf⟩ := frs_mem fl6f hb
    rw [z, he6] at e1
    cases e1
    exact nf vs hd6
  have hst : ∀ b ∈ frs X.outer, b ∈ frs X.stack := fun b hb => by rw [hstk]; exact (List.mem_filterMap.mp hb).elim fun env q => List.mem_filterMap.mpr ⟨env, List.mem_cons_of_mem _ q.1, q.2⟩
  have Ip : Inv (asCx X ea oe) pins σ H { s with heap := h6, toks := tk } :=
    ⟨⟨I6.ok.mod, I6.ok.kind, I6.ok.glob, I6.ok.blt, I6.ok.above, I6.ok.inj, I6.ok.has, I6.ok.cab, fun z => Bool.noConfusion z, I6.ok.frames, I6.ok.stk, I6.ok.exf, I6.ok.bs, I6.ok.bsz, I6.ok.noex, I6.ok.exfs, I6.ok.funs, I6.ok.frf⟩, I6.os, I6.bare, I6.base, I6.loc, I6.cell, I6.free, I6.freeC, fun p hp => by
      rcases List.mem_cons.mp (show p ∈ (ea, oe) :: (X.pn ++ pins) from hp) with rfl | hp
      · exact ⟨he6, hea, fun z => notFr X.env.locals (by rw [hstk]; exact List.mem_filterMap.mpr ⟨X.env, List.mem_cons_self, hfr⟩) z.symm, fun z => notFr ea (hst ea z) rfl, fun v z => by rw [show (ea, oe).2.data = oe.data from rfl, hd6] at z; cases z⟩
      · exact I6.pin p hp, I6.hok, I6.len⟩
  refine store_ok (X := asCx X ea oe) Ip hN hi (Or.inl hlk) (v := .ref ea) rfl (fun s7 I7 => ?_) (Or.inr hlk)
  refine wpAny_mono (hb ea oe hc6.1 pins s7 _ H _ I7 (h ea hea)) (fun f s8 z => ?_) fun e s8 z => ?_
  · cases f with
    | next => obtain ⟨_, _, _, q⟩ := z; exact q.elim
    | brk => obtain ⟨_, _, _, q⟩ := z; exact q.elim
    | cont => obtain ⟨_, _, _, q⟩ := z; exact q.elim
    | ret u =>
      obtain ⟨v, σ', H', I, r, q⟩ := z
      obtain ⟨m, hn, _⟩ := id I.loc
      have cne := I.cne
      refine wpAny_nameGoes hl hn (by rw [show X.env.scope.kind = .function from I.ok.kind]; rfl) fun h' m' hn' hs => ?_
      have lt : ∀ {b : Addr} {o : Obj}, X.s₀.heap.get? b = some o → b ≠ X.env.locals := fun e => Nat.ne_of_lt (Nat.lt_of_lt_of_le (Heap.lt_size e) I6.ok.above)
      refine ⟨v, List.replicate X.N.length none, H', ⟨I6.ok, I.os, I.bare, ⟨fun b o e n hb hx => (hs.2 b (lt e)).trans (I.base.keep b o e n hb hx), fun b o e n hb hx => ?_, I.base.free, fun b o e hx => ?_, I.base.tups, I.base.frzs, I.base.tbls⟩, ⟨m', hn', fun j y v' e1 e2 e3 => ?_⟩, fun y c e => ?_, I.free, I.freeC, fun p hp => ?_, fun b ob e => ?_, by simp⟩, r, q⟩
      · obtain ⟨sl, e1⟩ := I.base.slot b o e n hb hx
        exact ⟨sl, (hs.2 b (lt e)).trans e1⟩
      · obtain ⟨o', e1⟩ := I.base.there b o e hx
        exact ⟨o', (hs.2 b (lt e)).trans e1⟩
      · rw [List.getElem?_replicate] at e2
        split at e2 <;> cases e2
      · obtain ⟨v', o', e1, e4⟩ := I.cell y c e
        exact ⟨v', o', (hs.2 c (cne y c e)).trans e1, e4⟩
      · obtain ⟨p1, p2, p3, p4⟩ := I.pin p (List.mem_cons_of_mem _ hp)
        exact ⟨(hs.2 p.1 p3).trans p1, p2, p3, p4⟩
      · refine (I.hok b ob e).stay (fun c w' hc q => (hs.2 c ?_).trans q) (fun _ q => q) fun _ _ q => q
        rintro rfl
        have fr : H' X.env.locals = none := I.free
        rcases hc with hc | hc
        · rw [← hc, fr] at e; cases e
        · rw [fr] at hc; cases hc
  · have z' : X.xe e s8 := z
    rw [hx] at z'
    exact z'.elim
theorem call_isiE {X : Cx} {ea C : Addr} {oe : Obj} (Z : ExcK X.K C) (hc : oe.cls = .ref C) : CallR (asCx X ea oe) (.builtin "isinstance") (fun xs H Q => ∃ (c : V) (u : Value) (b : Bool), xs = [.ref ea, c] ∧ (∀ u', RelV c u' → u' = u) ∧ PySem.W.kitOne X.K (.ref C) u = some b ∧ Q (.bl b) H) := by
  intro pins s σ H xs us Q I r h
  obtain ⟨c, u, b, rfl, hu, e, q⟩ := h
  obtain ⟨u1, u2, rfl, rx, rT⟩ := vals2 r
  cases rx
  cases hu _ rT
  have p := (I.pin (ea, oe) List.mem_cons_self).1
  exact PySem.W.kia_one (kitx_exc (a := ea) Z hc) I.kIn p e (by intro z; cases z) fun tk => ⟨.bl b, H, I.tok _, rfl, q⟩
theorem call_intB {X : Cx} : CallR X (.type "int") (fun xs H Q => ∃ b : Bool, xs = [.bl b] ∧ Q (.int (if b then 1 else 0)) H) := by
  intro pins s σ H xs us Q I r h
  obtain ⟨b, rfl, q⟩ := h
  obtain ⟨u, rfl, rx⟩ := vals1 r
  cases rx
  exact PySem.call_int_bool ⟨.int _, H, I.tok _, ⟨_, rfl⟩, q⟩
theorem vals_bl : ∀ {bs : List Bool} {us : List Value}, Vals (bs.map V.bl) us → us = bs.map Value.bool
  | [], _, .nil => rfl
  | b :: r, _, .cons h t => by
    have e := vals_bl t
    cases h
    rw [e]
    rfl
def rCount : V → List V → Hp → VK → Prop := fun x vs H Q => ∃ (l : Addr) (bs : List Bool) (k : Bool), x = .ref l ∧ vs = [.bl k] ∧ H l = some (.lst (bs.map V.bl)) ∧ Q (.int (bs.countP (· == k) : Nat)) H
theorem mt_count {X : Cx} : MtM X "list.count" rCount := by
  intro pins s σ H x vs v us Q I rx rv h
  obtain ⟨l, bs, k, rfl, rfl, hH, q⟩ := h
  cases rx
  obtain ⟨u, rfl, ru⟩ := rv.one
  cases ru
  obtain ⟨z, its, n, r, hl, e⟩ := I.lstM hH
  have ei := vals_bl r
  subst ei
  refine call_meets PySem.F.slot_list_count ⟨_, e, rfl⟩ PySem.F.entry_list_count (PySem.F.args_list_count_2 _ _) (PySem.SeqAt.list_countAt l (bs.map Value.bool).toArray n _ _ (.bool k) (isBoolOf k)) ⟨e, fun y hy => ?_, ?_⟩
  · have hy' : y ∈ bs.map Value.bool := by simpa using hy
    obtain ⟨b, _, rfl⟩ := List.mem_map.mp hy'
    exact PySem.SeqAt.EqAt.bool_bool b k
  · refine ⟨.int _, H, I.tok _, ⟨_, rfl⟩, ?_⟩
    have ec : (bs.map Value.bool).toArray.toList.countP (isBoolOf k) = bs.countP (· == k) := by
      rw [show (bs.map Value.bool).toArray.toList = bs.map Value.bool from rfl, List.countP_map]
      rfl
    rw [ec]
    exact q
theorem bt_ValueError : bootBuiltins "ValueError" = some (.type "ValueError") := by decide +kernel
theorem pcallP {X : Cx} {k : Nat} {f : Addr} {fd : FuncData} {ps : List Str} {sp : Sp} {E : XK} {x : Str} {p pos : Pos} {e : Expr} {es : List Expr} {t : TA} (D : Df X.K X.mg x f fd ps) (G : FnOk X.prog X.w X.K X.mg X.base (CXE X.prog X.w) k f fd ps sp) (hr : Room k X.A) (hp : Passes (CXE X.prog X.w) X E)
    (ha : PA X (e :: es) t) (hg : Gl X x := by rfl) (hdb : (x == ("__debug__" : Str)) = false := by decide) (he : starEach (e :: es) X.env = (false, eval e X.env) :: starEach es X.env := by rfl) (hpl : (backTo pos (starEach es X.env)).any (·.1) = false := by rfl) :
    PE X (.Call (.Name x p) (e :: es) [] pos) (tCall sp [] E t) := pe_call G hr hg D.m D.k D.b .nil hp ha hdb he hpl
end L2
namespace L2
open PySem PySem.Spec PyProof.Rows
theorem bt_set : bootBuiltins "set" = some (.type "set") := by decide +kernel
theorem ints_of : ∀ {ns : List Int} {its : List Value}, Vals (ns.map V.int) its → IntsAre its ns
  | [], _, .nil => .nil
  | n :: _, _, .cons r t => by
    obtain ⟨k, rfl⟩ := r
    exact .cons n k (ints_of t)
def mets (ns : List Int) : List Int := firstMet (fun i => ns.getD i 0) ns.length
theorem dd : ∀ (ns acc : List Int), (ns.foldl step_dedup acc).length ≤ acc.length + ns.length ∧ ((ns.foldl step_dedup acc).length = acc.length + ns.length ↔ ns.Nodup ∧ ∀ x ∈ ns, x ∉ acc)
  | [], acc => by simp
  | a :: r, acc => by
    rw [List.foldl_cons]
    have hc : (acc.any (· == a) = true) ↔ a ∈ acc := by simp
    by_cases h : a ∈ acc
    · have e : step_dedup acc a = acc := by unfold step_dedup; rw [if_pos (hc.mpr h)]
      rw [e]
      have ih := dd r acc
      refine ⟨by rw [List.length_cons]; omega, ⟨fun z => ?_, fun z => absurd h (z.2 a List.mem_cons_self)⟩⟩
      rw [List.length_cons] at z
      omega
    · have e : step_dedup acc a = acc ++ [a] := by unfold step_dedup; rw [if_neg (fun z => h (hc.mp z))]
      rw [e]
      have ih := dd r (acc ++ [a])
      have el : (acc ++ [a]).length = acc.length + 1 := by simp
      rw [el] at ih
      refine ⟨by rw [List.length_cons]; omega, ⟨fun z => ?_, fun z => ?_⟩⟩
      · rw [List.length_cons] at z
        obtain ⟨h1, h2⟩ := ih.2.mp (by omega)
        refine ⟨List.nodup_cons.mpr ⟨fun q => h2 a q (by simp), h1⟩, fun x hx => ?_⟩
        rcases List.mem_cons.mp hx with rfl | hx
        · exact h
        · exact fun q => h2 x hx (List.mem_append_left _ q)
      · obtain ⟨h1, h2⟩ := z
        obtain ⟨n1, n2⟩ := List.nodup_cons.mp h1
        have := ih.2.mpr ⟨n2, fun x hx q => by
          rcases List.mem_append.mp q with q | q
          · exact h2 x (List.mem_cons_of_mem _ hx) q
          · have : x = a := by simpa using q
            subst this
            exact n1 hx⟩
        rw [List.length_cons]
        omega
theorem mets_fold (ns : List Int) : mets ns = ns.foldl step_dedup [] := by
  unfold mets firstMet
  congr 1
  refine List.ext_getElem (by simp) fun i h1 h2 => ?_
  simp only [List.getElem_map, List.getElem_range]
  rw [List.getD_eq_getElem?_getD, List.getElem?_eq_getElem h2]
  rfl
theorem mets_le (ns : List Int) : (mets ns).length ≤ ns.length := by
  have := (dd ns []).1
  rw [mets_fold]
  simpa using this
theorem mets_iff (ns : List Int) : (mets ns).length = ns.length ↔ ns.Nodup := by
  have := (dd ns []).2
  rw [mets_fold]
  simpa using this
section
variable {X : Cx}
def rSetOf (K : PySem.W.Frag) : List V → Hp → VK → Prop := fun xs H Q => ∃ p ns, xs = [.ref p] ∧ SqL K H p (ns.map V.int) ∧ ns.length < 4095 ∧ ∀ l, H l = none → Q (.ref l) (upd H l (.set (fun k' => (mets ns).any (· == k')) (mets ns).length))
theorem call_set_of (hc : X.calm = true) : CallR X (.type "set") (rSetOf X.K) := by
  intro pins s σ H xs us Q I r h
  obtain ⟨p, ns, rfl, hq, hb, q⟩ := h
  obtain ⟨u, rfl, rx⟩ := vals1 r
  cases rx
  obtain ⟨its, r', pl, hz⟩ := I.list hq
  have hlen := r'.length
  rw [List.length_map] at hlen
  have hsz : its.toArray.size = ns.length := by rw [List.size_toArray]; omega
  refine PySem.call_set_list (items := its.toArray) (ns := ns) (I.ok.hd hc) pl.isList (by simpa using ints_of r') (by rw [hsz]; unfold scanBound; omega) fun h' tk hS hk => ?_
  rw [hsz] at hS
  exact ⟨.ref s.heap.objs.size, _, I.laid (t' := tk) (fun b o e => hk b o (Heap.lt_size e) e) (Nat.le_refl _) (show ObjOk X.prog X.w _ h' _ (.set (fun k' => (mets ns).any (· == k')) (mets ns).length) from hS), rfl, q _ (I.hok.fresh (Nat.le_refl _))⟩
def rLenSet : List V → Hp → VK → Prop := fun xs H Q => ∃ p S n, xs = [.ref p] ∧ H p = some (.set S n) ∧ n ≤ sizeLine ∧ Q (.int n) H
theorem call_lenSet : CallR X (.builtin "len") rLenSet := by
  intro pins s σ H xs us Q I r h
  obtain ⟨p, S, n, rfl, hq, hn, q⟩ := h
  obtain ⟨u, rfl, rx⟩ := vals1 r
  cases rx
  obtain ⟨o, es, ep, t, ho, hex, hd, hel, hmem, hb, hf, hn'⟩ := I.hok p _ hq
  have hl := line63
  have e : es.size = n := by omega
  refine call_len_set ho hex hd hf (by omega) ⟨.int n, H, I.tok _, ⟨_, by rw [e]⟩, q⟩
end
def Itd (top : Int) (n : Nat) : It := ⟨fun i _ => i < n, fun i H x H' => H' = H ∧ x = .int (top - i), fun i _ => n ≤ i⟩
theorem turn_down {P : Program} {w : World} {K : PySem.W.Frag} {tg : Expr} (it : Addr) (top : Int) (n : Nat) : Turn P w K tg (Itd top n) [it] it (fun i h => IsRangeIter h it (top + (i : Nat) * (-1)) ((n : Int) - (i : Nat)) (-1)) where
  mem := by simp
  obj := fun i h st b hb => by
    have e : b = it := by simpa using hb
    subst e
    exact ⟨_, st, fun v z => by
      have z' : Data.fields _ = Data.cell v := z
      cases z'⟩
  keep := fun i h h' st k => k it (by simp) _ st
  item := by
    intro X hP hw hK hc i pins s σ H E I hf st hg
    subst hP hw hK
    obtain ⟨f0, f1, f2, f3, f4, f5⟩ := hf it (by simp)
    have W := Walks.range (prog := X.prog) (w := X.w) (I.ok.hd hc) it top (-1) n
    refine W.item i s _ _ hg st fun v h' tk hv st' kk => ?_
    obtain ⟨t, rfl⟩ := hv
    have I1 : Inv X pins σ H { s with heap := h', toks := tk } := I.turned (fun b o hb e => kk b o (by simpa using hb) e) f0 f1 f3 f4 f5
    refine ⟨_, rfl, go_of (s := { s with heap := h', toks := tk }) (n := "range_iterator") st' rfl rfl (by decide) ⟨.int (top - i), H, I1, ⟨t, ?_⟩, ⟨rfl, rfl⟩, st', fun b hb => (hf b hb).1⟩⟩
    rw [show top + (i : Int) * -1 = top - i by omega]
  done := by
    intro X hP hw hK hc i pins s σ H E I hf st hg
    subst hP hw hK
    obtain ⟨f0, f1, f2, f3, f4, f5⟩ := hf it (by simp)
    exact wpAny_pyNext_range_end (I.ok.hd hc) st (by have : n ≤ i := hg; omega) fun h' eb => ⟨rfl, I.turned (t' := s.toks) (fun b o hb e => eb b o hb e) f0 f1 f3 f4 f5⟩
  self := fun _ _ _ _ _ st h => wpAny_pyIter_rangeiter st h
theorem rangeSize_neg (a b : Int) : Builtin.Range.rangeSize a b (-1) = if b < a then a - b else 0 := by
  simp only [Builtin.Range.rangeSize, show ¬ ((-1 : Int) > 0) by decide, if_false]
  split
  · rw [Int.neg_neg, Int.ediv_one]
    omega
  · rfl
theorem small_neg {a b : Int} (ha : -(2 ^ 62) ≤ a) (ha' : a < 2 ^ 62) (hb : -(2 ^ 62) ≤ b) (hb' : b < 2 ^ 62) : Builtin.Range.small a b (-1) = true := by
  unfold Builtin.Range.small
  rw [rangeSize_neg]
  simp only [Builtin.Range.rangeFitsLong, Bool.and_eq_true, Bool.or_eq_true, decide_eq_true_eq, beq_iff_eq, show ¬ ((-1 : Int) > 0) by decide, if_false]
  split <;> omega
section
variable {X : Cx} {tg : Expr}
theorem range_down {pins : List (Addr × Obj)} {σ : St} {H : Hp} {s : Shared} {R : It → Hp → Prop} {E : Value → Shared → Prop} {a b : Int} {t u v : Tok} {tk : Nat} (I : Inv X pins σ H s) (h1 : -(2 ^ 62) ≤ a) (h2 : a < 2 ^ 62) (h3 : -(2 ^ 62) ≤ b) (h4 : b < 2 ^ 62)
    (q : R (Itd a (a - b).toNat) H) : wpAny (model X.prog X.w) X.A (pyIter (.ref s.heap.objs.size)) (PIE X pins σ tg R) E { s with heap := s.heap.push { cls := .type "range", data := .fields #[.int a t, .int b u, .int (-1) v] }, toks := tk } := by
  refine wpAny_pyIter_range (IsRange.new ..) (small_neg h1 h2 h3 h4) ?_
  have I1 : Inv X pins σ H { s with heap := s.heap.push { cls := .type "range", data := .fields #[.int a t, .int b u, .int (-1) v] }, toks := tk } := I.kept fun b o e => Heap.get?_push_of_some _ e
  refine ⟨(s.heap.push { cls := .type "range", data := .fields #[.int a t, .int b u, .int (-1) v] }).objs.size, [(s.heap.push { cls := .type "range", data := .fields #[.int a t, .int b u, .int (-1) v] }).objs.size], _, _, H, rfl,
    I1.kept (t' := tk) fun b o e => Heap.get?_push_of_some _ e, turn_down _ a (a - b).toNat, ?_, fun c hc => ?_, q⟩
  · have e1 : a + ((0 : Nat) : Int) * (-1) = a := by simp
    have e2 : (((a - b).toNat : Nat) : Int) - ((0 : Nat) : Int) = Builtin.Range.rangeSize a b (-1) := by rw [rangeSize_neg]; split <;> omega
    show IsRangeIter _ _ (a + ((0 : Nat) : Int) * (-1)) ((((a - b).toNat : Nat) : Int) - ((0 : Nat) : Int)) (-1)
    rw [e1, e2]
    exact Heap.get?_push_size _ rfl
  · have e : c = (s.heap.push { cls := .type "range", data := .fields #[.int a t, .int b u, .int (-1) v] }).objs.size := by simpa using hc
    subst e
    exact I1.fpOk (Nat.le_refl _) (I1.hok.fresh (Nat.le_refl _))
def iRng3 (ta : TA) : TI := fun σ H R => ta σ H fun vs H1 => ∃ i j : Int, vs = [.int i, .int j, .int (-1)] ∧ (-(2 ^ 62) ≤ i ∧ i < 2 ^ 62 ∧ -(2 ^ 62) ≤ j ∧ j < 2 ^ 62) ∧ R (Itd i (i - j).toNat) H1
theorem pi_range3 {a b c : Expr} {ta : TA} {p pos : Pos} (hg : Gl X "range") (hm : X.mg "range" = none) (ha : PA X [a, b, c] ta) (hs : starEach [a, b, c] X.env = [(false, eval a X.env), (false, eval b X.env), (false, eval c X.env)] := by rfl)
    (hs2 : starEach [b, c] X.env = [(false, eval b X.env), (false, eval c X.env)] := by rfl) :
    PI X tg (.Call (.Name "range" p) [a, b, c] [] pos) (iRng3 ta) := by
  intro pins s σ H R I h
  refine Call_ (ld_blt I hg hm boot_range (PyProof.Rows.callWith_type1 (thn (ha pos pins s σ H _ I h) fun us s1 ⟨vs, H1, I1, r1, q1⟩ => ?_) (by rw [hs, hs2]) (by rw [hs2]; rfl)))
  obtain ⟨i, j, e, ⟨q1, q2, q3, q4⟩, q⟩ := q1
  subst e
  cases r1 with
  | cons r rr =>
    cases rr with
    | cons r' rr =>
      cases rr with
      | cons r'' rr =>
        cases rr
        obtain ⟨t, rfl⟩ := r
        obtain ⟨t', rfl⟩ := r'
        obtain ⟨t'', rfl⟩ := r''
        exact call_range_3 (by decide) (range_down I1 q1 q2 q3 q4 q) (.inl (PyProof.noPylong_small (by decide)))
end
theorem for_down {top : Int} {n : Nat} {g : TG} {tb : TS} {D : Ends} {σ : St} {H : Hp} (Pv : Nat → St → Hp → Prop) (h0 : Pv 0 σ H)
    (hs : ∀ i σ H, i < n → Pv i σ H → g (.int (top - i)) σ H fun σ2 H2 => tb { D with nx := Pv (i + 1), ct := Pv (i + 1), bk := D.nx } σ2 H2) (hd : ∀ σ H, Pv n σ H → D.nx σ H) :
    ∃ W : Nat → Nat → St → Hp → Prop, (∃ m, W 0 m σ H) ∧ ∀ i m σ H, W i m σ H →
      ((Itd top n).stop i H ∧ D.nx σ H) ∨ ((Itd top n).go i H ∧ ∃ N : St → Hp → Prop, (∀ σ' H', N σ' H' → ∃ m', m' < m ∧ W (i + 1) m' σ' H') ∧ ∀ x H', (Itd top n).yld i H x H' → g x σ H' fun σ2 H2 => tb { D with nx := N, ct := N, bk := D.nx } σ2 H2) := by
  refine ⟨fun i m σ H => m = n - i ∧ i ≤ n ∧ Pv i σ H, ⟨n, by simp, Nat.zero_le _, h0⟩, ?_⟩
  rintro i m σ H ⟨rfl, hi, p⟩
  by_cases hlt : i < n
  · refine .inr ⟨hlt, Pv (i + 1), fun σ' H' p' => ⟨n - (i + 1), by omega, rfl, hlt, p'⟩, fun x H' y => ?_⟩
    obtain ⟨e, y⟩ := y
    subst e y
    exact hs i σ _ hlt p
  · have e : i = n := by omega
    subst e
    exact .inl ⟨Nat.le_refl _, hd σ H p⟩
end L2
namespace L2
open PySem PySem.Spec PyProof.Rows
theorem bt_zip : bootBuiltins "zip" = some (.type "zip") := by decide +kernel
def Itz (K : PySem.W.Frag) (a b : Addr) : It :=
  ⟨fun i H => ∃ xs ys x y, SqL K H a xs ∧ SqL K H b ys ∧ xs[i]? = some x ∧ ys[i]? = some y,
   fun i H v H' => ∃ (t : Addr) (x y : V), v = .ref t ∧ H t = none ∧ H' = upd H t (.tup [x, y]) ∧ (∀ xs, SqL K H a xs → xs[i]? = some x) ∧ ∀ ys, SqL K H b ys → ys[i]? = some y,
   fun i H => ∃ xs ys, SqL K H a xs ∧ SqL K H b ys ∧ (xs.length ≤ i ∨ ys.length ≤ i)⟩
theorem turn_zip {P : Program} {w : World} {K : PySem.W.Frag} {elts : List Expr} {x1 : Nat} {tpos : Pos} (a b z TI TO i1 i2 : Addr) (D : ZipApart z TI TO i1 i2 a b) :
    Turn P w K (.Tuple elts x1 tpos) (Itz K a b) [z, TO, i1, i2, TI] z (fun i h => IsZip h z TI TO .none ∧ IsPair h TI (.ref i1) (.ref i2) ∧ (∃ u v, IsPair h TO u v) ∧ h.IsListIter i1 a i ∧ h.IsListIter i2 b i) where
  mem := by simp
  obj := fun i h st c hc => by
    obtain ⟨hz, hTI, ⟨u, v, hTO⟩, h1, h2⟩ := st
    simp only [List.mem_cons, List.not_mem_nil, or_false] at hc
    rcases hc with rfl | rfl | rfl | rfl | rfl
    · exact ⟨_, hz, fun v q => by
        have q' : Data.fields _ = Data.cell v := q
        cases q'⟩
    · exact ⟨_, hTO, fun v q => by
        have q' : Data.seq _ _ = Data.cell v := q
        cases q'⟩
    · obtain ⟨o, q, c, d⟩ := h1
      exact ⟨o, q, fun v q => by rw [d] at q; cases q⟩
    · obtain ⟨o, q, c, d⟩ := h2
      exact ⟨o, q, fun v q => by rw [d] at q; cases q⟩
    · exact ⟨_, hTI, fun v q => by
        have q' : Data.seq _ _ = Data.cell v := q
        cases q'⟩
  keep := fun i h h' st k => by
    obtain ⟨hz, hTI, ⟨u, v, hTO⟩, h1, h2⟩ := st
    exact ⟨k z (by simp) _ hz, k TI (by simp) _ hTI, ⟨u, v, k TO (by simp) _ hTO⟩, h1.at fun o q => k i1 (by simp) o q, h2.at fun o q => k i2 (by simp) o q⟩
  item := by
    intro X hP hw hK hc i pins s σ H E I hf st hg
    subst hP hw hK
    obtain ⟨xs, ys, x, y, hq1, hq2, hx, hy⟩ := hg
    obtain ⟨its1, rv1, p1, hz1⟩ := I.list hq1
    obtain ⟨its2, rv2, p2, hz2⟩ := I.list hq2
    obtain ⟨u1, hu1, ru1⟩ := rv1.get hx
    obtain ⟨u2, hu2, ru2⟩ := rv2.get hy
    obtain ⟨hz, hTI, ⟨u, v, hTO⟩, hi1, hi2⟩ := st
    have fz := hf z (by simp)
    have fO := hf TO (by simp)
    have f1 := hf i1 (by simp)
    have f2 := hf i2 (by simp)
    have fI := hf TI (by simp)
    refine wpAny_pyNext_zip_item D hz hTI hTO hi1 hi2 p1.isList p2.isList (x := u1) (y := u2) (by simpa using hu1) (by simpa using hu2) fun h1 hzO hTO1 hi11 hi21 htup hsz hk1 => ?_
    refine ⟨_, rfl, wpAny_letOwnedTupleGo_zip hzO fun h2 hz2' sb => ?_⟩
    have hTn : H s.heap.objs.size = none := I.hok.fresh (Nat.le_refl _)
    have hk : ∀ c o, c ≠ z → c ≠ TO → c ≠ i1 → c ≠ i2 → s.heap.get? c = some o → h2.get? c = some o := fun c o c1 c2 c3 c4 q => (sb.2 c c1).trans (hk1 c o c1 c2 c3 c4 q)
    have hTz : s.heap.objs.size ≠ z := Nat.ne_of_gt (Heap.lt_size hz)
    have htup2 : h2.get? s.heap.objs.size = some { cls := .type "tuple", data := .seq #[u1, u2] } := (sb.2 _ hTz).trans htup
    have ne : ∀ c v, H c = some v → c ≠ z ∧ c ≠ TO ∧ c ≠ i1 ∧ c ≠ i2 := fun c v q => ⟨ne_of_none q fz.1, ne_of_none q fO.1, ne_of_none q f1.1, ne_of_none q f2.1⟩
    have hokH : HOk X.prog X.w H h2 := fun c v q => (I.hok c v q).stay (fun d q0 hd r => by
      have nc : d ≠ z ∧ d ≠ TO ∧ d ≠ i1 ∧ d ≠ i2 := by
        rcases hd with rfl | hd
        · exact ne _ _ q
        · exact ne _ _ hd
      exact hk d q0 nc.1 nc.2.1 nc.2.2.1 nc.2.2.2 r) (fun _ r => r) fun _ _ r => r
    have hok : HOk X.prog X.w (upd H s.heap.objs.size (.tup [x, y])) h2 := fun c v q => by
      by_cases hb : c = s.heap.objs.size
      · subst hb
        rw [upd_same] at q
        cases q
        refine ⟨by show 2 ≤ sizeLine; decide, [u1, u2], .cons ru1 (.cons ru2 .nil), ?_⟩
        exact ⟨_, htup2, rfl, _, rfl⟩
      · rw [upd_ne hb] at q
        exact (hokH c v q).stay (fun d q0 _ r => r) (fun d r => by rw [upd_ne (ne_of_none r hTn)]; exact r) fun d ys r => by rw [upd_ne (ne_of_none r hTn)]; exact r
    have lt : ∀ c o, s.heap.get? c = some o → c ≠ s.heap.objs.size := fun c o q => Nat.ne_of_lt (Heap.lt_size q)
    have notIn : ∀ c : Addr, c ∉ [z, TO, i1, i2] → c ≠ z ∧ c ≠ TO ∧ c ≠ i1 ∧ c ≠ i2 := fun c q => ⟨fun e => q (by rw [e]; simp), fun e => q (by rw [e]; simp), fun e => q (by rw [e]; simp), fun e => q (by rw [e]; simp)⟩
    have I1 : Inv X pins σ (upd H s.heap.objs.size (.tup [x, y])) { s with heap := h2, gens := s.gens, drawn := s.drawn, toks := s.toks } := by
      refine I.step (ch := [z, TO, i1, i2]) (fun c hb => ?_) (fun c o _ _ hc' q _ => hk c o (notIn c hc').1 (notIn c hc').2.1 (notIn c hc').2.2.1 (notIn c hc').2.2.2 q) (fun c o _ _ hc' q _ => ⟨o.slots, hk c o (notIn c hc').1 (notIn c hc').2.1 (notIn c hc').2.2.1 (notIn c hc').2.2.2 q⟩) (fun c o hc' q n => by rw [upd_ne (lt c o q)]; exact n)
        (fun c o hc' q => ⟨o, hk c o (notIn c hc').1 (notIn c hc').2.1 (notIn c hc').2.2.1 (notIn c hc').2.2.2 q⟩) (fun c ys q => by rw [upd_ne (ne_of_none q hTn)]; exact q) (fun c o ys q => by rw [upd_ne (ne_of_none q hTn)]; exact q) (fun c ps q => ⟨#[], by rw [upd_ne (ne_of_none q hTn), q]; simp⟩) (fun m hm => ?_) hok I.bare
      · simp only [List.mem_cons, List.not_mem_nil, or_false] at hb
        rcases hb with rfl | rfl | rfl | rfl
        · exact ⟨fz.2.2.2.1, fz.2.1, fz.2.2.2.2.1, fz.2.2.2.2.2⟩
        · exact ⟨fO.2.2.2.1, fO.2.1, fO.2.2.2.2.1, fO.2.2.2.2.2⟩
        · exact ⟨f1.2.2.2.1, f1.2.1, f1.2.2.2.2.1, f1.2.2.2.2.2⟩
        · exact ⟨f2.2.2.2.1, f2.2.1, f2.2.2.2.2.1, f2.2.2.2.2.2⟩
      · obtain ⟨o, es, ep, ho, r⟩ := hm
        exact ⟨o, es, ep, hk _ o (Ne.symm fz.2.1) (Ne.symm fO.2.1) (Ne.symm f1.2.1) (Ne.symm f2.2.1) ho, r⟩
    refine ⟨.ref s.heap.objs.size, _, I1, rfl, ⟨_, x, y, rfl, hTn, rfl, fun l hl => by rw [I.list_inj hl hq1]; exact hx, fun l hl => by rw [I.list_inj hl hq2]; exact hy⟩, ⟨hz2', hk TI _ D.TIz D.TITO D.TIi1 D.TIi2 hTI, ⟨_, _, (sb.2 TO D.TOz).trans hTO1⟩, hi11.extBut sb.extBut D.i1z, hi21.extBut sb.extBut D.i2z⟩, fun c hb => ?_⟩
    simp only [List.mem_cons, List.not_mem_nil, or_false] at hb
    rcases hb with rfl | rfl | rfl | rfl | rfl
    · rw [upd_ne (lt _ _ hz)]; exact fz.1
    · rw [upd_ne (lt _ _ hTO)]; exact fO.1
    · obtain ⟨o, q, _⟩ := hi1
      rw [upd_ne (lt _ o q)]; exact f1.1
    · obtain ⟨o, q, _⟩ := hi2
      rw [upd_ne (lt _ o q)]; exact f2.1
    · rw [upd_ne (lt _ _ hTI)]; exact fI.1
  done := by
    intro X hP hw hK hc i pins s σ H E I hf st hg
    subst hP hw hK
    obtain ⟨xs, ys, hq1, hq2, hx⟩ := hg
    obtain ⟨its1, rv1, p1, hz1⟩ := I.list hq1
    obtain ⟨its2, rv2, p2, hz2⟩ := I.list hq2
    obtain ⟨hz, hTI, ⟨u, v, hTO⟩, hi1, hi2⟩ := st
    have hl1 := rv1.length
    have hl2 := rv2.length
    have fz := hf z (by simp)
    have fO := hf TO (by simp)
    have f1 := hf i1 (by simp)
    have f2 := hf i2 (by simp)
    have notIn : ∀ c : Addr, c ∉ [z, TO, i1, i2] → c ≠ z ∧ c ≠ TO ∧ c ≠ i1 ∧ c ≠ i2 := fun c q => ⟨fun e => q (by rw [e]; simp), fun e => q (by rw [e]; simp), fun e => q (by rw [e]; simp), fun e => q (by rw [e]; simp)⟩
    refine wpAny_pyNext_zip_end (I.ok.hd hc) D hz hTI hTO hi1 hi2 p1.isList p2.isList (by
      rcases hx with hx | hx
      · exact .inl (by simp; omega)
      · exact .inr (by simp; omega)) fun h' hk => ⟨rfl, ?_⟩
    have ne : ∀ c v, H c = some v → c ≠ z ∧ c ≠ TO ∧ c ≠ i1 ∧ c ≠ i2 := fun c v q => ⟨ne_of_none q fz.1, ne_of_none q fO.1, ne_of_none q f1.1, ne_of_none q f2.1⟩
    have hok : HOk X.prog X.w H h' := fun c v q => (I.hok c v q).stay (fun d q0 hd r => by
      have nc : d ≠ z ∧ d ≠ TO ∧ d ≠ i1 ∧ d ≠ i2 := by
        rcases hd with rfl | hd
        · exact ne _ _ q
        · exact ne _ _ hd
      exact hk d q0 nc.1 nc.2.1 nc.2.2.1 nc.2.2.2 r) (fun _ r => r) fun _ _ r => r
    refine I.step (ch := [z, TO, i1, i2]) (fun c hb => ?_) (fun c o _ _ hc' q _ => hk c o (notIn c hc').1 (notIn c hc').2.1 (notIn c hc').2.2.1 (notIn c hc').2.2.2 q) (fun c o _ _ hc' q _ => ⟨o.slots, hk c o (notIn c hc').1 (notIn c hc').2.1 (notIn c hc').2.2.1 (notIn c hc').2.2.2 q⟩) (fun c o hc' q n => n)
      (fun c o hc' q => ⟨o, hk c o (notIn c hc').1 (notIn c hc').2.1 (notIn c hc').2.2.1 (notIn c hc').2.2.2 q⟩) (fun c ys q => q) (fun c o ys q => q) (fun c ps q => ⟨#[], by rw [q]; simp⟩) (fun m hm => ?_) hok I.bare
    · simp only [List.mem_cons, List.not_mem_nil, or_false] at hb
      rcases hb with rfl | rfl | rfl | rfl
      · exact ⟨fz.2.2.2.1, fz.2.1, fz.2.2.2.2.1, fz.2.2.2.2.2⟩
      · exact ⟨fO.2.2.2.1, fO.2.1, fO.2.2.2.2.1, fO.2.2.2.2.2⟩
      · exact ⟨f1.2.2.2.1, f1.2.1, f1.2.2.2.2.1, f1.2.2.2.2.2⟩
      · exact ⟨f2.2.2.2.1, f2.2.1, f2.2.2.2.2.1, f2.2.2.2.2.2⟩
    · obtain ⟨o, es, ep, ho, r⟩ := hm
      exact ⟨o, es, ep, hk _ o (Ne.symm fz.2.1) (Ne.symm fO.2.1) (Ne.symm f1.2.1) (Ne.symm f2.2.1) ho, r⟩
  self := fun A i s Q E st h => wpAny_pyIter_zip st.1 h
section
variable {X : Cx}
def iZip (K : PySem.W.Frag) (ta : TA) : TI := fun σ H R => ta σ H fun vs H1 => ∃ (a b : Addr) (xs ys : List V), vs = [.ref a, .ref b] ∧ SqL K H1 a xs ∧ SqL K H1 b ys ∧ R (Itz K a b) H1
theorem pi_zip {elts : List Expr} {x1 : Nat} {tpos : Pos} {a b : Expr} {ta : TA} {p pos : Pos} (hg : Gl X "zip") (hm : X.mg "zip" = none) (ha : PA X [a, b] ta) (hs : starEach [a, b] X.env = [(false, eval a X.env), (false, eval b X.env)] := by rfl) (hs2 : starEach [b] X.env = [(false, eval b X.env)] := by rfl) :
    PI X (.Tuple elts x1 tpos) (.Call (.Name "zip" p) [a, b] [] pos) (iZip X.K ta) := by
  intro pins s σ H R I h
  refine Call_ (ld_blt I hg hm bt_zip (PyProof.Rows.callWith_type1 (thn (ha pos pins s σ H _ I h) fun us s1 ⟨vs, H1, I1, r1, q1⟩ => ?_) (by rw [hs, hs2]) (by rw [hs2]; rfl)))
  obtain ⟨l1, l2, xs, ys, e, hq1, hq2, q⟩ := q1
  subst e
  cases r1 with
  | cons r rr =>
    cases rr with
    | cons r' rr =>
      cases rr
      cases r
      cases r'
      obtain ⟨its1, rv1, pl1, hz1⟩ := I1.list hq1
      obtain ⟨its2, rv2, pl2, hz2⟩ := I1.list hq2
      have lt1 : l1 < s1.heap.objs.size := by
        obtain ⟨o, ho, _⟩ := pl1.isList
        exact Heap.lt_size ho
      have lt2 : l2 < s1.heap.objs.size := by
        obtain ⟨o, ho, _⟩ := pl2.isList
        exact Heap.lt_size ho
      have nn : ∀ i j : Nat, i ≠ j → (s1.heap.objs.size + i : Addr) ≠ s1.heap.objs.size + j := fun i j h e => h (Nat.add_left_cancel e)
      have n0 : ∀ j : Nat, j ≠ 0 → (s1.heap.objs.size : Addr) ≠ s1.heap.objs.size + j := fun j h e => h (Nat.add_left_cancel (n := s1.heap.objs.size) (e.symm.trans (Nat.add_zero _).symm))
      have g1 : ∀ j : Nat, (l1 : Addr) ≠ s1.heap.objs.size + j := fun j => Nat.ne_of_lt (Nat.lt_of_lt_of_le lt1 (Nat.le_add_right _ _))
      have g2 : ∀ j : Nat, (l2 : Addr) ≠ s1.heap.objs.size + j := fun j => Nat.ne_of_lt (Nat.lt_of_lt_of_le lt2 (Nat.le_add_right _ _))
      refine call_zip_2 pl1.isList pl2.isList fun h' hz hTI hTO hi1 hi2 hsz hk => ?_
      refine wpAny_pyIter_zip hz ?_
      refine ⟨s1.heap.objs.size + 4, [s1.heap.objs.size + 4, s1.heap.objs.size + 3, s1.heap.objs.size, s1.heap.objs.size + 1, s1.heap.objs.size + 2], _, _, H1, rfl, I1.kept (t' := s1.toks) hk, turn_zip l1 l2 (s1.heap.objs.size + 4) (s1.heap.objs.size + 2) (s1.heap.objs.size + 3) s1.heap.objs.size (s1.heap.objs.size + 1) ⟨nn 2 4 (by decide), nn 3 4 (by decide), n0 4 (by decide), nn 1 4 (by decide), nn 2 3 (by decide), (n0 2 (by decide)).symm, nn 2 1 (by decide), (n0 3 (by decide)).symm, nn 3 1 (by decide), n0 1 (by decide), g1 4, g1 3, Nat.ne_of_lt lt1, g1 1, g2 4, g2 3, Nat.ne_of_lt lt2, g2 1⟩, ⟨hz, hTI, ⟨_, _, hTO⟩, hi1, hi2⟩, fun b hb => ?_, q⟩
      have hle : s1.heap.objs.size ≤ b := by
        simp only [List.mem_cons, List.not_mem_nil, or_false] at hb
        rcases hb with rfl | rfl | rfl | rfl | rfl
        · exact Nat.le_add_right _ _
        · exact Nat.le_add_right _ _
        · exact Nat.le_refl _
        · exact Nat.le_add_right _ _
        · exact Nat.le_add_right _ _
      exact I1.fpOk hle (I1.hok.fresh hle)
end
theorem comp_at {J : It} {g : TG} {te : TE} {τ0 : St} {H1 : Hp} {D : Addr} {Q : VK} (n : Nat) (hD : H1 D = none) (hz : n ≤ sizeLine) (Good : St → Prop) (F : Nat → Hp → V → Prop) (h0 : Good τ0)
    (hF1 : ∀ i H H' y, Same H H' → F i H y → F i H' y) (hF2 : ∀ i H ys zs y, H D = some (.lst ys) → F i H y → F i (L2.upd H D (.lst zs)) y)
    (hgo : ∀ i H, i < n → Same H1 H → J.go i H) (hst : ∀ H, Same H1 H → J.stop n H)
    (step : ∀ i τ H x H2 ys (R1 : St → VK) (R2 : St → Hp → Prop), i < n → Good τ → Same H1 H → H D = some (.lst ys) → J.yld i H x H2 → (∀ τ2 y H5, Good τ2 → Same H H5 → F i H5 y → R1 τ2 y H5) →
      g x τ H2 fun τ2 H3 => tYes τ2 H3 fun ok H4 => if ok = true then te τ2 H4 (R1 τ2) else R2 τ2 H4)
    (done : ∀ ys H, ys.length = n → (∀ i y, ys[i]? = some y → F i H y) → Same H1 H → H D = some (.lst ys) → Q (.ref D) H) :
    ∃ W : Nat → Nat → St → List V → Hp → Prop, (∃ m, W 0 m τ0 [] (upd H1 D (.lst []))) ∧ ∀ i m τ ys H', W i m τ ys H' →
      H' D = some (.lst ys) ∧ ((J.stop i H' ∧ At Q (.ref D) H') ∨ (J.go i H' ∧ ys.length < sizeLine ∧ ∀ x H2, J.yld i H' x H2 → g x τ H2 fun τ2 H3 => tYes τ2 H3 fun ok H4 =>
        if ok = true then te τ2 H4 fun y H5 => H5 D = some (.lst ys) ∧ ∃ m', m' < m ∧ W (i + 1) m' τ2 (ys ++ [y]) (L2.upd H5 D (.lst (ys ++ [y]))) else ∃ m', m' < m ∧ W (i + 1) m' τ2 ys H4)) := by
  refine ⟨fun i m τ ys H => i ≤ n ∧ m = n - i ∧ Good τ ∧ ys.length = i ∧ (∀ j y, ys[j]? = some y → F j H y) ∧ Same H1 H ∧ H D = some (.lst ys),
    ⟨n, Nat.zero_le _, by simp, h0, rfl, (fun j y e => by simp at e), (Same.refl H1).upd hD _, upd_same⟩, ?_⟩
  rintro i m τ ys H ⟨hi, rfl, hτ, hl, hF, hS, hDy⟩
  refine ⟨hDy, ?_⟩
  by_cases hlt : i < n
  · refine .inr ⟨hgo i H hlt hS, by omega, fun x H2 y => ?_⟩
    refine step i τ H x H2 ys _ _ hlt hτ hS hDy y fun τ2 v H5 hτ2 s5 f => ⟨s5 _ _ hDy, n - (i + 1), by omega, hlt, rfl, hτ2, by simp [hl], fun j u e => ?_, (hS.trans s5).upd hD _, upd_same⟩
    have hD5 := s5 _ _ hDy
    by_cases hj : j < ys.length
    · rw [List.getElem?_append_left hj] at e
      exact hF2 _ _ _ _ _ hD5 (hF1 _ _ _ _ s5 (hF j u e))
    · rw [List.getElem?_append_right (by omega)] at e
      have hj0 : j - ys.length = 0 := by
        by_cases q : j - ys.length = 0
        · exact q
        · rw [List.getElem?_eq_none (by simp; omega)] at e
          cases e
      rw [hj0] at e
      have eu : v = u := by simpa using e
      subst eu
      have ej : j = i := by omega
      subst ej
      exact hF2 _ _ _ _ _ hD5 f
  · have e : i = n := by omega
    subst e
    exact .inl ⟨hst H hS, done ys H hl hF hS hDy⟩
theorem yes_go {te : TE} {τ : St} {H : Hp} {R1 : VK} {R2 : Hp → Prop} (h : te τ H R1) : tYes τ H fun ok H4 => if ok = true then te τ H4 R1 else R2 H4 := by
  show if true = true then te τ H R1 else R2 H
  rw [if_pos rfl]
  exact h
theorem g0_yes {x : V} {te : TE} {τ : St} {H : Hp} {R1 : St → VK} {R2 : St → Hp → Prop} (h : te (τ.set 0 (some x)) H (R1 (τ.set 0 (some x)))) : gName 0 x τ H fun τ2 H3 => tYes τ2 H3 fun ok H4 => if ok = true then te τ2 H4 (R1 τ2) else R2 τ2 H4 := yes_go (R2 := R2 (τ.set 0 (some x))) h
end L2
namespace L2
open PySem PySem.Spec PyProof.Rows
theorem bt_sorted : bootBuiltins "sorted" = some (.builtin "sorted") := by decide +kernel
theorem ints_vals : ∀ {ns : List Int} {its : List Value}, IntsAre its ns → Vals (ns.map V.int) its
  | _, _, .nil => .nil
  | _, _, .cons _ t h => .cons ⟨t, rfl⟩ (ints_vals h)
theorem ints_read : ∀ {ns : List Int} {its : List Value}, Vals (ns.map V.int) its → IntsAre its ns
  | [], _, .nil => .nil
  | n :: _, _, .cons r t => by
    obtain ⟨k, rfl⟩ := r
    exact .cons n k (ints_read t)
section
variable {X : Cx}
def rSorted (K : PySem.W.Frag) : List V → Hp → VK → Prop := fun xs H Q => ∃ p ns, xs = [.ref p] ∧ SqL K H p (ns.map V.int) ∧ ns.length < 64 ∧ ∀ l (ms : List Int), H l = none → ms.Perm ns → ms.Pairwise (· ≤ ·) → Q (.ref l) (upd H l (.lst (ms.map V.int)))
theorem call_sorted : CallR X (.builtin "sorted") (rSorted X.K) := by
  intro pins s σ H xs us Q I r h
  obtain ⟨p, ns, rfl, hq, h64, q⟩ := h
  obtain ⟨u, rfl, rx⟩ := vals1 r
  cases rx
  obtain ⟨its, r', pl, hz⟩ := I.list hq
  have hlen := r'.length
  rw [List.length_map] at hlen
  refine sorted_ints (vs := its) pl.isList (ints_read r') (by omega) fun out ms a1 a2 a3 => ?_
  obtain ⟨e, he⟩ := sortedAll_at s.heap its out
  have hle : s.heap.objs.size ≤ s.heap.objs.size + 1 := Nat.le_succ _
  have hml := a2.length_eq
  refine ⟨.ref (s.heap.objs.size + 1), _, I.laid (t' := s.toks) (fun b o e => sortedAll_old e) hle (show ObjOk X.prog X.w _ (sortedAll s.heap its out) _ (.lst (ms.map V.int)) from ⟨?_, out.toList, e, ints_vals a1, by simpa using he⟩), rfl, q _ _ (I.hok.fresh hle) a2 a3⟩
  rw [List.length_map, hml]
  have : (64 : Nat) ≤ sizeLine := by decide
  omega
end
end L2
namespace Mth
structure Pr (n : Int) : Prop where
  lo : 2 ≤ n
  hi : n ≤ 1000000
  nd : ∀ d : Int, 2 ≤ d → d * d ≤ n → n % d ≠ 0
theorem sq_le_of {a b : Int} (ha : 0 ≤ a) (h : a ≤ b) : a * a ≤ b * b := Int.mul_le_mul h h ha (by omega)
theorem lt_of_sq {d e : Int} (hd : 0 ≤ d) (he : 0 ≤ e) (h : e * e < d * d) : e < d := by
  by_cases q : e < d
  · exact q
  · have := sq_le_of hd (show d ≤ e by omega)
    omega
theorem co_div {n d : Int} (h2 : 2 ≤ d) (hlt : d < n) (hd : n % d = 0) : ∃ e, 2 ≤ e ∧ e * e ≤ n ∧ n % e = 0 := by
  by_cases hs : d * d ≤ n
  · exact ⟨d, h2, hs, hd⟩
  · have e1 : n = d * (n / d) := by
      have := Int.mul_ediv_add_emod n d
      omega
    have q0 : 0 < n / d := by
      by_cases q : 0 < n / d
      · exact q
      · have : d * (n / d) ≤ d * 0 := Int.mul_le_mul_of_nonneg_left (by omega) (by omega)
        omega
    have q1 : n / d ≠ 1 := fun q => by rw [q] at e1; omega
    have q2 : n / d < d := by
      by_cases q : n / d < d
      · exact q
      · have : d * d ≤ d * (n / d) := Int.mul_le_mul_of_nonneg_left (by omega) (by omega)
        omega
    refine ⟨n / d, by omega, ?_, ?_⟩
    · have : (n / d) * (n / d) ≤ d * (n / d) := Int.mul_le_mul_of_nonneg_right (by omega) (by omega)
      omega
    · have : n % (n / d) = (d * (n / d)) % (n / d) := by rw [← e1]
      rw [this]
      exact Int.mul_emod_left d (n / d)
theorem Pr.all {n : Int} (P : Pr n) {d : Int} (h2 : 2 ≤ d) (hlt : d < n) : n % d ≠ 0 := fun h => by
  obtain ⟨e, h1, h3, h4⟩ := co_div h2 hlt h
  exact P.nd e h1 h3 h4
def okP (n : Nat) : Bool := (List.range 998).all fun k => decide (n < (k + 2) * (k + 2)) || decide (n % (k + 2) ≠ 0)
theorem pr_of {n : Nat} (h2 : 2 ≤ n) (h3 : n < 1000000) (h : okP n = true) : Pr (n : Int) := by
  refine ⟨by omega, by omega, fun d d2 ds dz => ?_⟩
  have hd : d < 1000 := lt_of_sq (by omega) (by omega) (by omega)
  unfold okP at h
  rw [List.all_eq_true] at h
  have hk := h (d.toNat - 2) (List.mem_range.mpr (by omega))
  have e : d.toNat - 2 + 2 = d.toNat := by omega
  rw [e] at hk
  have ed : (d.toNat : Int) = d := by omega
  simp only [Bool.or_eq_true, decide_eq_true_eq] at hk
  rcases hk with hk | hk
  · have : ((d.toNat * d.toNat : Nat) : Int) = d * d := by rw [Int.natCast_mul, ed]
    omega
  · apply hk
    have : ((n % d.toNat : Nat) : Int) = (n : Int) % d := by rw [Int.natCast_emod, ed]
    omega
structure InvAt (p a f l : Int) : Prop where
  f0 : 0 ≤ f
  f1 : f < p
  l0 : 1 ≤ l
  l1 : l < p
  eq : (f * a - l) % p = 0
theorem dvd_of {a p : Int} (h : a % p = 0) : p ∣ a := Int.dvd_of_emod_eq_zero h
theorem InvAt.next {p a f l : Int} (P : Pr p) (h : InvAt p a f l) (hl : l ≠ 1) : InvAt p a (-f * (p / l) % p) (p % l) ∧ p % l < l := by
  have p2 := P.lo
  have l0 := h.l0
  have hm1 : p % l < l := Int.emod_lt_of_pos _ (by omega)
  have hm0 : 0 ≤ p % l := Int.emod_nonneg _ (by omega)
  have hne : p % l ≠ 0 := P.all (by omega) h.l1
  refine ⟨⟨Int.emod_nonneg _ (by omega), Int.emod_lt_of_pos _ (by omega), by omega, by have := h.l1; omega, ?_⟩, hm1⟩
  obtain ⟨k, hk⟩ := dvd_of h.eq
  have hp := Int.mul_ediv_add_emod p l
  have hr := Int.mul_ediv_add_emod (-f * (p / l)) p
  apply Int.emod_eq_zero_of_dvd
  generalize p / l = q at *
  generalize hG : (-f * q) / p = g at *
  refine ⟨-(g * a) - k * q - 1 + 0, ?_⟩
  have e1 : -f * q % p = -f * q - p * g := by omega
  have e2 : p % l = p - l * q := by omega
  rw [e1, e2]
  have e3 : f * a = p * k + l := by omega
  have e4 : (-f * q - p * g) * a - (p - l * q) = -(f * a) * q - p * (g * a) - p + l * q := by
    rw [Int.sub_mul, Int.neg_mul, Int.neg_mul, Int.neg_mul]
    have : f * q * a = f * a * q := by rw [Int.mul_assoc, Int.mul_comm q a, ← Int.mul_assoc]
    rw [this, Int.mul_assoc p g a]
    omega
  rw [e4, e3]
  have e5 : -(p * k + l) * q = -(p * (k * q)) - l * q := by rw [Int.neg_mul, Int.add_mul, Int.mul_assoc]; omega
  have e6 : p * (-(g * a) - k * q - 1 + 0) = -(p * (g * a)) - p * (k * q) - p := by
    rw [Int.mul_add, Int.mul_sub, Int.mul_sub, Int.mul_neg]; omega
  rw [e5, e6]
  omega
theorem InvAt.start {p a : Int} (P : Pr p) (h1 : 1 ≤ a) (h2 : a < p) : InvAt p a 1 a := ⟨by omega, by have := P.lo; omega, h1, h2, by simp⟩
theorem InvAt.done {p a f : Int} (P : Pr p) (h : InvAt p a f 1) : 1 ≤ f ∧ f < p ∧ f * a % p = 1 := by
  have p2 := P.lo
  obtain ⟨k, hk⟩ := dvd_of h.eq
  have e : f * a = 1 + p * k := by omega
  refine ⟨?_, h.f1, ?_⟩
  · have h0 := h.f0
    by_cases q : f = 0
    · rw [q, Int.zero_mul] at e
      have : (1 + p * k) % p = 1 := by rw [Int.add_mul_emod_self_left]; exact Int.emod_eq_of_lt (by omega) (by omega)
      rw [← e] at this
      simp at this
    · omega
  · rw [e, Int.add_mul_emod_self_left]
    exact Int.emod_eq_of_lt (by omega) (by omega)
def tl (xs : List Int) : Nat → Nat
  | 0 => 0
  | k + 1 => if xs.getD k 0 = 0 then tl xs k else k + 1
def trim (xs : List Int) : List Int := xs.take (tl xs xs.length)
theorem tl_le (xs : List Int) : ∀ k, tl xs k ≤ k
  | 0 => Nat.le_refl _
  | k + 1 => by
    unfold tl
    split
    · exact Nat.le_succ_of_le (tl_le xs k)
    · exact Nat.le_refl _
theorem tl_last (xs : List Int) : ∀ k, 0 < tl xs k → xs.getD (tl xs k - 1) 0 ≠ 0
  | 0, h => absurd h (Nat.lt_irrefl _)
  | k + 1, h => by
    unfold tl at h ⊢
    by_cases q : xs.getD k 0 = 0
    · rw [if_pos q] at h ⊢
      exact tl_last xs k h
    · rw [if_neg q]
      simpa using q
structure Row (p : Int) (xs : List Int) : Prop where
  all : ∀ x ∈ xs, 0 ≤ x ∧ x < p
  last : 0 < xs.length → xs.getD (xs.length - 1) 0 ≠ 0
theorem trim_length (xs : List Int) : (trim xs).length = tl xs xs.length := by
  unfold trim
  rw [List.length_take, Nat.min_eq_left (tl_le xs _)]
theorem trim_le (xs : List Int) : (trim xs).length ≤ xs.length := by rw [trim_length]; exact tl_le xs _
theorem trim_row {p : Int} {xs : List Int} (h : ∀ x ∈ xs, 0 ≤ x ∧ x < p) : Row p (trim xs) := by
  refine ⟨fun x hx => h x (List.mem_of_mem_take hx), fun h0 => ?_⟩
  rw [trim_length] at h0 ⊢
  have q := tl_last xs xs.length h0
  unfold trim
  have hlt : tl xs xs.length - 1 < tl xs xs.length := by omega
  rw [List.getD_eq_getElem?_getD, List.getElem?_take_of_lt hlt, ← List.getD_eq_getElem?_getD]
  exact q
end Mth
namespace Mth
def ev (s : Int) : List Int → Int
  | [] => 0
  | a :: r => a + s * ev s r
theorem ev_drop (s : Int) (xs : List Int) (i : Nat) (a : Int) (h : xs[i]? = some a) : ev s (xs.drop i) = a + s * ev s (xs.drop (i + 1)) := by
  obtain ⟨hi, e⟩ := List.getElem?_eq_some_iff.mp h
  rw [List.drop_eq_getElem_cons hi, e]
  rfl
theorem horner {p s t E a : Int} (h : t = E % p) : (t * s + a) % p = (a + s * E) % p := by
  rw [h]
  have : (E % p * s + a) % p = (E * s + a) % p := by
    rw [Int.add_emod, Int.mul_emod, Int.emod_emod_of_dvd _ (Int.dvd_refl p), ← Int.mul_emod, ← Int.add_emod]
  rw [this, Int.mul_comm E s, Int.add_comm]
def mulIn (p a : Int) (two : List Int) (k : Nat) : Nat → List Int → List Int
  | 0, st => st
  | j + 1, st => (mulIn p a two k j st).set (k + j) (((mulIn p a two k j st).getD (k + j) 0 + a * two.getD j 0) % p)
def mulOut (p : Int) (one two : List Int) : Nat → List Int
  | 0 => List.replicate (one.length + two.length) 0
  | k + 1 => mulIn p (one.getD k 0) two k two.length (mulOut p one two k)
theorem mulIn_length (p a : Int) (two : List Int) (k : Nat) : ∀ j st, (mulIn p a two k j st).length = st.length
  | 0, _ => rfl
  | j + 1, st => by rw [mulIn, List.length_set, mulIn_length p a two k j st]
theorem mulOut_length (p : Int) (one two : List Int) : ∀ k, (mulOut p one two k).length = one.length + two.length
  | 0 => by simp [mulOut]
  | k + 1 => by rw [mulOut, mulIn_length, mulOut_length p one two k]
def Rem (p : Int) (xs : List Int) : Prop := ∀ x ∈ xs, 0 ≤ x ∧ x < p
theorem Rem.set {p : Int} {xs : List Int} (h : Rem p xs) (k : Nat) {v : Int} (hv : 0 ≤ v ∧ v < p) : Rem p (xs.set k v) := fun x hx => by
  rcases List.mem_or_eq_of_mem_set hx with hx | rfl
  · exact h x hx
  · exact hv
theorem mulIn_rem {p a : Int} {two : List Int} {k : Nat} (hp : 0 < p) : ∀ j st, Rem p st → Rem p (mulIn p a two k j st)
  | 0, _, h => h
  | j + 1, st, h => by
    rw [mulIn]
    exact (mulIn_rem hp j st h).set _ ⟨Int.emod_nonneg _ (by omega), Int.emod_lt_of_pos _ hp⟩
theorem mulOut_rem {p : Int} {one two : List Int} (hp : 0 < p) : ∀ k, Rem p (mulOut p one two k)
  | 0 => fun x hx => by
    rw [mulOut] at hx
    have := List.eq_of_mem_replicate hx
    omega
  | k + 1 => by
    rw [mulOut]
    exact mulIn_rem hp _ _ (mulOut_rem hp k)
end Mth
namespace Mth
abbrev Cf := Nat → Int
def cf (xs : List Int) : Cf := fun k => xs.getD k 0
theorem cf_nil (k : Nat) : cf [] k = 0 := by simp [cf]
theorem cf_zero (a : Int) (r : List Int) : cf (a :: r) 0 = a := by simp [cf]
theorem cf_succ (a : Int) (r : List Int) (k : Nat) : cf (a :: r) (k + 1) = cf r k := by simp [cf]
theorem cf_ge {xs : List Int} {k : Nat} (h : xs.length ≤ k) : cf xs k = 0 := by
  unfold cf
  rw [List.getD_eq_getElem?_getD, List.getElem?_eq_none h]
  rfl
def cm : List Int → Cf → Cf
  | [], _ => fun _ => 0
  | a :: r, g => fun k => match k with
    | 0 => a * g 0
    | k + 1 => a * g (k + 1) + cm r g k
def sh (g : Cf) : Cf := fun k => match k with
  | 0 => 0
  | k + 1 => g k
theorem cm_nil (g : Cf) (k : Nat) : cm [] g k = 0 := rfl
theorem cm_zero (a : Int) (r : List Int) (g : Cf) : cm (a :: r) g 0 = a * g 0 := rfl
theorem cm_succ (a : Int) (r : List Int) (g : Cf) (k : Nat) : cm (a :: r) g (k + 1) = a * g (k + 1) + cm r g k := rfl
theorem cm_cons (a : Int) (r : List Int) (g : Cf) (k : Nat) : cm (a :: r) g k = a * g k + sh (cm r g) k := by
  cases k with
  | zero => simp [cm, sh]
  | succ k => rfl
theorem cm_add (xs : List Int) (g h : Cf) : ∀ k, cm xs (fun i => g i + h i) k = cm xs g k + cm xs h k := by
  induction xs with
  | nil => intro k; rfl
  | cons a r ih =>
    intro k
    cases k with
    | zero => rw [cm_zero, cm_zero, cm_zero, Int.mul_add]
    | succ k =>
      rw [cm_succ, cm_succ, cm_succ, ih, Int.mul_add]
      omega
theorem cm_smul (xs : List Int) (c : Int) (g : Cf) : ∀ k, cm xs (fun i => c * g i) k = c * cm xs g k := by
  induction xs with
  | nil => intro k; simp [cm]
  | cons a r ih =>
    intro k
    cases k with
    | zero => rw [cm_zero, cm_zero, ← Int.mul_assoc, Int.mul_comm a c, Int.mul_assoc]
    | succ k =>
      rw [cm_succ, cm_succ, ih, Int.mul_add, ← Int.mul_assoc, Int.mul_comm a c, Int.mul_assoc]
theorem cm_sh (xs : List Int) (g : Cf) : ∀ k, cm xs (sh g) k = sh (cm xs g) k := by
  induction xs with
  | nil => intro k; cases k <;> rfl
  | cons a r ih =>
    intro k
    cases k with
    | zero => simp [cm_zero, sh]
    | succ k =>
      rw [cm_succ, ih]
      show a * g k + sh (cm r g) k = cm (a :: r) g k
      rw [cm_cons]
theorem cm_congr (xs : List Int) {g h : Cf} (e : ∀ k, g k = h k) : ∀ k, cm xs g k = cm xs h k := by
  have : g = h := funext e
  rw [this]
  intro k
  rfl
theorem cm_zero_fn (xs : List Int) : ∀ k, cm xs (fun _ => 0) k = 0 := by
  induction xs with
  | nil => intro k; rfl
  | cons a r ih =>
    intro k
    cases k with
    | zero => rw [cm_zero, Int.mul_zero]
    | succ k => rw [cm_succ, ih, Int.mul_zero]; rfl
theorem cm_one (g : Cf) (k : Nat) : cm [1] g k = g k := by
  rw [cm_cons, Int.one_mul]
  cases k <;> simp [sh, cm]
theorem cm_right_one (xs : List Int) : ∀ k, cm xs (cf [1]) k = cf xs k := by
  induction xs with
  | nil => intro k; rw [cf_nil]; rfl
  | cons a r ih =>
    intro k
    cases k with
    | zero => rw [cm_zero, cf_zero, cf_zero, Int.mul_one]
    | succ k => rw [cm_succ, cf_succ, cf_nil, Int.mul_zero, ih, cf_succ, Int.zero_add]
theorem cm_cf_cons (xs : List Int) (b : Int) (r : List Int) (k : Nat) : cm xs (cf (b :: r)) k = b * cf xs k + sh (cm xs (cf r)) k := by
  have e : ∀ i, cf (b :: r) i = b * cf [1] i + sh (cf r) i := fun i => by
    cases i with
    | zero => rw [cf_zero, cf_zero]; simp [sh]
    | succ i => rw [cf_succ, cf_succ, cf_nil]; simp [sh]
  rw [cm_congr xs e k, cm_add, cm_smul, cm_right_one, cm_sh]
theorem cm_comm (xs : List Int) : ∀ (ys : List Int) (k : Nat), cm xs (cf ys) k = cm ys (cf xs) k := by
  intro ys
  induction ys with
  | nil =>
    intro k
    rw [cm_congr xs cf_nil k, cm_zero_fn]
    rfl
  | cons b r ih =>
    intro k
    rw [cm_cf_cons, cm_cons]
    cases k with
    | zero => rfl
    | succ k =>
      show b * cf xs (k + 1) + cm xs (cf r) k = b * cf xs (k + 1) + cm r (cf xs) k
      rw [ih]
def addL : List Int → List Int → List Int
  | [], ys => ys
  | xs, [] => xs
  | a :: r, b :: t => (a + b) :: addL r t
def smulL (c : Int) (xs : List Int) : List Int := xs.map fun a => c * a
def mulL : List Int → List Int → List Int
  | [], _ => []
  | a :: r, ys => addL (smulL a ys) (0 :: mulL r ys)
theorem cf_addL : ∀ (xs ys : List Int) (k : Nat), cf (addL xs ys) k = cf xs k + cf ys k
  | [], ys, k => by rw [addL, cf_nil, Int.zero_add]
  | a :: r, [], k => by rw [addL, cf_nil, Int.add_zero]; intro h; cases h
  | a :: r, b :: t, k => by
    rw [addL]
    cases k with
    | zero => rw [cf_zero, cf_zero, cf_zero]
    | succ k => rw [cf_succ, cf_succ, cf_succ, cf_addL r t k]
theorem cf_smulL (c : Int) : ∀ (xs : List Int) (k : Nat), cf (smulL c xs) k = c * cf xs k
  | [], k => by rw [smulL, List.map_nil, cf_nil, Int.mul_zero]
  | a :: r, k => by
    have ih := cf_smulL c r
    unfold smulL at ih ⊢
    rw [List.map_cons]
    cases k with
    | zero => rw [cf_zero, cf_zero]
    | succ k => rw [cf_succ, cf_succ, ih]
theorem cf_shift (xs : List Int) (k : Nat) : cf (0 :: xs) k = sh (cf xs) k := by
  cases k with
  | zero => rw [cf_zero]; rfl
  | succ k => rw [cf_succ]; rfl
theorem cf_mulL : ∀ (xs ys : List Int) (k : Nat), cf (mulL xs ys) k = cm xs (cf ys) k
  | [], ys, k => by rw [mulL, cf_nil]; rfl
  | a :: r, ys, k => by
    rw [mulL, cf_addL, cf_smulL, cf_shift, cm_cons]
    cases k with
    | zero => rfl
    | succ k =>
      show a * cf ys (k + 1) + cf (mulL r ys) k = a * cf ys (k + 1) + cm r (cf ys) k
      rw [cf_mulL r ys k]
theorem cm_addL (g : Cf) : ∀ (xs ys : List Int) (k : Nat), cm (addL xs ys) g k = cm xs g k + cm ys g k
  | [], ys, k => by rw [addL, cm_nil, Int.zero_add]
  | a :: r, [], k => by rw [addL, cm_nil, Int.add_zero]; intro h; cases h
  | a :: r, b :: t, k => by
    rw [addL]
    cases k with
    | zero => rw [cm_zero, cm_zero, cm_zero, Int.add_mul]
    | succ k =>
      rw [cm_succ, cm_succ, cm_succ, cm_addL g r t k, Int.add_mul]
      omega
theorem cm_smulL (g : Cf) (c : Int) : ∀ (xs : List Int) (k : Nat), cm (smulL c xs) g k = c * cm xs g k
  | [], k => by rw [smulL, List.map_nil, cm_nil, Int.mul_zero]
  | a :: r, k => by
    have ih := cm_smulL g c r
    unfold smulL at ih ⊢
    rw [List.map_cons]
    cases k with
    | zero => rw [cm_zero, cm_zero, Int.mul_assoc]
    | succ k => rw [cm_succ, cm_succ, ih, Int.mul_add, Int.mul_assoc]
theorem cm_shiftL (g : Cf) (xs : List Int) (k : Nat) : cm (0 :: xs) g k = sh (cm xs g) k := by
  rw [cm_cons, Int.zero_mul, Int.zero_add]
theorem sh_congr {g h : Cf} (e : ∀ k, g k = h k) (k : Nat) : sh g k = sh h k := by
  cases k with
  | zero => rfl
  | succ k => exact e k
theorem cm_assoc (ys : List Int) (g : Cf) : ∀ (xs : List Int) (k : Nat), cm (mulL xs ys) g k = cm xs (cm ys g) k
  | [], k => rfl
  | a :: r, k => by
    rw [mulL, cm_addL, cm_smulL, cm_shiftL, cm_cons, sh_congr (cm_assoc ys g r) k]
def Eq (p : Int) (g h : Cf) : Prop := ∀ k, p ∣ g k - h k
theorem Eq.refl (p : Int) (g : Cf) : Mth.Eq p g g := fun k => by rw [Int.sub_self]; exact Int.dvd_zero p
theorem Eq.symm {p : Int} {g h : Cf} (e : Mth.Eq p g h) : Mth.Eq p h g := fun k => by
  have := Int.dvd_neg.mpr (e k)
  rwa [Int.neg_sub] at this
theorem Eq.trans {p : Int} {f g h : Cf} (a : Mth.Eq p f g) (b : Mth.Eq p g h) : Mth.Eq p f h := fun k => by
  have := Int.dvd_add (a k) (b k)
  rwa [show f k - g k + (g k - h k) = f k - h k by omega] at this
theorem Eq.of {p : Int} {g h : Cf} (e : ∀ k, g k = h k) : Mth.Eq p g h := fun k => by rw [e k, Int.sub_self]; exact Int.dvd_zero p
theorem Eq.add {p : Int} {f g h i : Cf} (a : Mth.Eq p f g) (b : Mth.Eq p h i) : Mth.Eq p (fun k => f k + h k) (fun k => g k + i k) := fun k => by
  have := Int.dvd_add (a k) (b k)
  rwa [show f k - g k + (h k - i k) = f k + h k - (g k + i k) by omega] at this
theorem Eq.sub {p : Int} {f g h i : Cf} (a : Mth.Eq p f g) (b : Mth.Eq p h i) : Mth.Eq p (fun k => f k - h k) (fun k => g k - i k) := fun k => by
  have := Int.dvd_sub (a k) (b k)
  rwa [show f k - g k - (h k - i k) = f k - h k - (g k - i k) by omega] at this
theorem Eq.cm {p : Int} {g h : Cf} (e : Mth.Eq p g h) : ∀ (xs : List Int), Mth.Eq p (Mth.cm xs g) (Mth.cm xs h)
  | [], k => by rw [cm_nil, cm_nil]; exact Int.dvd_zero p
  | a :: r, k => by
    cases k with
    | zero => rw [cm_zero, cm_zero, ← Int.mul_sub]; exact Int.dvd_trans (e 0) (Int.dvd_mul_left a _)
    | succ k =>
      rw [cm_succ, cm_succ]
      have := Int.dvd_add (Int.dvd_trans (e (k + 1)) (Int.dvd_mul_left a _)) (Eq.cm e r k)
      rwa [Int.mul_sub, show a * g (k + 1) - a * h (k + 1) + (Mth.cm r g k - Mth.cm r h k) = a * g (k + 1) + Mth.cm r g k - (a * h (k + 1) + Mth.cm r h k) by omega] at this
theorem Eq.cmL {p : Int} {xs ys : List Int} (e : Mth.Eq p (cf xs) (cf ys)) (zs : List Int) : Mth.Eq p (Mth.cm xs (cf zs)) (Mth.cm ys (cf zs)) := fun k => by
  rw [cm_comm xs zs k, cm_comm ys zs k]
  exact Eq.cm e zs k
theorem rem_eq {p a b : Int} (h : p ∣ a - b) (a0 : 0 ≤ a) (a1 : a < p) (b0 : 0 ≤ b) (b1 : b < p) : a = b := by
  have e := Int.emod_emod_of_dvd a (Int.dvd_refl p)
  have h1 : a % p = a := Int.emod_eq_of_lt a0 a1
  have h2 : b % p = b := Int.emod_eq_of_lt b0 b1
  have h3 := Int.emod_eq_emod_iff_emod_sub_eq_zero.mpr (Int.emod_eq_zero_of_dvd h)
  omega
end Mth
namespace Mth
theorem cf_row {p : Int} {xs : List Int} (h : ∀ x ∈ xs, 0 ≤ x ∧ x < p) (hp : 0 < p) (k : Nat) : 0 ≤ cf xs k ∧ cf xs k < p := by
  by_cases hk : k < xs.length
  · have e : cf xs k = xs[k] := by
      unfold cf
      rw [List.getD_eq_getElem?_getD, List.getElem?_eq_getElem hk]
      rfl
    rw [e]
    exact h _ (List.getElem_mem hk)
  · rw [cf_ge (by omega)]
    omega
theorem ext_cf {xs ys : List Int} (hl : xs.length = ys.length) (h : ∀ k, cf xs k = cf ys k) : xs = ys := by
  refine List.ext_getElem hl fun k h1 h2 => ?_
  have := h k
  unfold cf at this
  rw [List.getD_eq_getElem?_getD, List.getD_eq_getElem?_getD, List.getElem?_eq_getElem h1, List.getElem?_eq_getElem h2] at this
  exact this
theorem row_len {p : Int} {xs ys : List Int} (hx : Row p xs) (h : ∀ k, cf xs k = cf ys k) : xs.length ≤ ys.length := by
  by_cases c : xs.length ≤ ys.length
  · exact c
  · have h0 : 0 < xs.length := by omega
    have e : cf xs (xs.length - 1) = 0 := by rw [h, cf_ge (by omega)]
    exact absurd e (hx.last h0)
theorem row_eq {p : Int} {xs ys : List Int} (hp : 0 < p) (hx : Row p xs) (hy : Row p ys) (h : Mth.Eq p (cf xs) (cf ys)) : xs = ys := by
  have e : ∀ k, cf xs k = cf ys k := fun k => rem_eq (h k) (cf_row hx.all hp k).1 (cf_row hx.all hp k).2 (cf_row hy.all hp k).1 (cf_row hy.all hp k).2
  refine ext_cf ?_ e
  have h1 := row_len hx e
  have h2 := row_len hy fun k => (e k).symm
  omega
theorem tl_zero (xs : List Int) : ∀ k, ∀ i, tl xs k ≤ i → i < k → xs.getD i 0 = 0
  | 0, i, _, h => absurd h (Nat.not_lt_zero i)
  | k + 1, i, h1, h2 => by
    unfold tl at h1
    by_cases q : xs.getD k 0 = 0
    · rw [if_pos q] at h1
      by_cases e : i = k
      · rw [e]; exact q
      · exact tl_zero xs k i h1 (by omega)
    · rw [if_neg q] at h1
      omega
theorem cf_trim (xs : List Int) (k : Nat) : cf (trim xs) k = cf xs k := by
  unfold trim cf
  by_cases h : k < tl xs xs.length
  · rw [List.getD_eq_getElem?_getD, List.getElem?_take_of_lt h, ← List.getD_eq_getElem?_getD]
  · rw [List.getD_eq_getElem?_getD, List.getElem?_eq_none (by rw [List.length_take]; omega)]
    by_cases h2 : k < xs.length
    · exact (tl_zero xs xs.length k (by omega) h2).symm
    · exact (cf_ge (xs := xs) (by omega)).symm
theorem inv_ex {p a : Int} (P : Pr p) (h1 : 1 ≤ a) (h2 : a < p) : ∃ f, 1 ≤ f ∧ f < p ∧ f * a % p = 1 := by
  have go : ∀ (m : Nat) (f l : Int), l.toNat = m → InvAt p a f l → ∃ f, InvAt p a f 1 := by
    intro m
    induction m using Nat.strongRecOn with
    | ind m ih =>
      intro f l hm hI
      by_cases e : l = 1
      · rw [e] at hI
        exact ⟨f, hI⟩
      · obtain ⟨hN, hlt⟩ := hI.next P e
        have := hN.l0
        exact ih (p % l).toNat (by omega) _ _ rfl hN
  obtain ⟨f, hI⟩ := go _ 1 a rfl (InvAt.start P h1 h2)
  exact ⟨f, hI.done P⟩
theorem Pr.euclid {p a b : Int} (P : Pr p) (h : p ∣ a * b) : p ∣ a ∨ p ∣ b := by
  have p2 := P.lo
  by_cases c : p ∣ a
  · exact .inl c
  · refine .inr ?_
    have r0 := Int.emod_nonneg a (show p ≠ 0 by omega)
    have r1 := Int.emod_lt_of_pos a (show 0 < p by omega)
    have rn : a % p ≠ 0 := fun z => c (Int.dvd_of_emod_eq_zero z)
    obtain ⟨f, _, _, hf⟩ := inv_ex P (show 1 ≤ a % p by omega) r1
    have e1 : f * a % p = 1 := by rw [Int.mul_emod, ← hf, Int.mul_emod f (a % p), Int.emod_emod_of_dvd _ (Int.dvd_refl p)]
    have d1 : p ∣ f * a - 1 := by
      apply Int.dvd_of_emod_eq_zero
      rw [Int.sub_emod, e1]
      simp [Int.emod_eq_of_lt (show (0 : Int) ≤ 1 by omega) (show (1 : Int) < p by omega)]
    have d2 : p ∣ f * (a * b) := Int.dvd_trans h (Int.dvd_mul_left f _)
    have d3 : p ∣ (f * a - 1) * b := Int.dvd_trans d1 (Int.dvd_mul_right _ b)
    have e2 : f * (a * b) - (f * a - 1) * b = b := by
      rw [Int.sub_mul, Int.one_mul, Int.mul_assoc]
      omega
    have := Int.dvd_sub d2 d3
    rwa [e2] at this
def quo (z : Int) : List Int → List Int
  | [] => []
  | _ :: r => match r with
    | [] => []
    | _ :: _ => ev z r :: quo z r
theorem quo_len (z : Int) : ∀ xs : List Int, (quo z xs).length = xs.length - 1
  | [] => rfl
  | [_] => rfl
  | _ :: b :: r => by
    have ih := quo_len z (b :: r)
    rw [quo, List.length_cons, ih]
    simp
theorem ev_quo (z y : Int) : ∀ xs : List Int, ev y xs = ev z xs + (y - z) * ev y (quo z xs)
  | [] => by simp [ev, quo]
  | [a] => by simp [ev, quo]
  | a :: b :: r => by
    have ih := ev_quo z y (b :: r)
    rw [quo]
    show a + y * ev y (b :: r) = a + z * ev z (b :: r) + (y - z) * (ev z (b :: r) + y * ev y (quo z (b :: r)))
    rw [ih]
    generalize ev z (b :: r) = E
    generalize ev y (quo z (b :: r)) = q
    have e1 : y * (E + (y - z) * q) = y * E + (y - z) * (y * q) := by
      rw [Int.mul_add, ← Int.mul_assoc y (y - z) q, Int.mul_comm y (y - z), Int.mul_assoc]
    have e2 : (y - z) * (E + y * q) = y * E - z * E + (y - z) * (y * q) := by
      rw [Int.mul_add, Int.sub_mul]
    rw [e1, e2]
    omega
theorem cf_quo_zero {p z : Int} : ∀ xs : List Int, (∀ k, p ∣ cf (quo z xs) k) → p ∣ ev z xs → ∀ k, p ∣ cf xs k
  | [], _, _, k => by rw [cf_nil]; exact Int.dvd_zero p
  | [a], _, h, k => by
    have h' : p ∣ a := by simpa [ev] using h
    cases k with
    | zero => rwa [cf_zero]
    | succ k => rw [cf_succ, cf_nil]; exact Int.dvd_zero p
  | a :: b :: r, hq, h, k => by
    have h0 : p ∣ ev z (b :: r) := by have := hq 0; rwa [quo, cf_zero] at this
    have hr : ∀ k, p ∣ cf (quo z (b :: r)) k := fun k => by have := hq (k + 1); rwa [quo, cf_succ] at this
    cases k with
    | zero =>
      rw [cf_zero]
      have e : ev z (a :: b :: r) = a + z * ev z (b :: r) := rfl
      rw [e] at h
      have := Int.dvd_sub h (Int.dvd_trans h0 (Int.dvd_mul_left z _))
      rwa [show a + z * ev z (b :: r) - z * ev z (b :: r) = a by omega] at this
    | succ k =>
      rw [cf_succ]
      exact cf_quo_zero (b :: r) hr h0 k
theorem few_roots {p : Int} (P : Pr p) : ∀ (zs : List Int) (xs : List Int), xs.length ≤ zs.length → zs.Pairwise (fun a b => ¬ p ∣ b - a) → (∀ z ∈ zs, p ∣ ev z xs) → ∀ k, p ∣ cf xs k
  | [], xs, hl, _, _, k => by
    have : xs = [] := List.eq_nil_of_length_eq_zero (by simpa using hl)
    rw [this, cf_nil]
    exact Int.dvd_zero p
  | z :: r, xs, hl, hd, hz, k => by
    obtain ⟨h1, h2⟩ := List.pairwise_cons.mp hd
    have hz0 := hz z List.mem_cons_self
    refine cf_quo_zero (z := z) xs ?_ hz0 k
    refine few_roots P r (quo z xs) (by rw [quo_len]; simp at hl; omega) h2 fun y hy => ?_
    have hy0 := hz y (List.mem_cons_of_mem _ hy)
    rw [ev_quo z y xs] at hy0
    have := Int.dvd_sub hy0 hz0
    rw [show ev z xs + (y - z) * ev y (quo z xs) - ev z xs = (y - z) * ev y (quo z xs) by omega] at this
    rcases P.euclid this with q | q
    · exact absurd q (h1 y hy)
    · exact q
theorem ev_addL (z : Int) : ∀ xs ys : List Int, ev z (addL xs ys) = ev z xs + ev z ys
  | [], ys => by simp [addL, ev]
  | a :: r, [] => by simp [addL, ev]
  | a :: r, b :: t => by
    rw [addL]
    show a + b + z * ev z (addL r t) = a + z * ev z r + (b + z * ev z t)
    rw [ev_addL z r t, Int.mul_add]
    omega
theorem ev_smulL (z c : Int) : ∀ xs : List Int, ev z (smulL c xs) = c * ev z xs
  | [] => by simp [smulL, ev]
  | a :: r => by
    have ih := ev_smulL z c r
    unfold smulL at ih ⊢
    rw [List.map_cons]
    show c * a + z * ev z (r.map fun a => c * a) = c * (a + z * ev z r)
    rw [ih, Int.mul_add, ← Int.mul_assoc z c, Int.mul_comm z c, Int.mul_assoc]
theorem ev_mulL (z : Int) : ∀ xs ys : List Int, ev z (mulL xs ys) = ev z xs * ev z ys
  | [], ys => by simp [mulL, ev]
  | a :: r, ys => by
    rw [mulL, ev_addL, ev_smulL]
    show a * ev z ys + (0 + z * ev z (mulL r ys)) = (a + z * ev z r) * ev z ys
    rw [ev_mulL z r ys, Int.add_mul, Int.zero_add, Int.mul_assoc]
theorem ev_zero_of {p z : Int} : ∀ xs : List Int, (∀ k, p ∣ cf xs k) → p ∣ ev z xs
  | [], _ => Int.dvd_zero p
  | a :: r, h => by
    have h0 := h 0
    rw [cf_zero] at h0
    exact Int.dvd_add h0 (Int.dvd_trans (ev_zero_of r fun k => by have := h (k + 1); rwa [cf_succ] at this) (Int.dvd_mul_left z _))
def negL (xs : List Int) : List Int := smulL (-1) xs
theorem ev_congr {p z : Int} {xs ys : List Int} (h : Mth.Eq p (cf xs) (cf ys)) : p ∣ ev z xs - ev z ys := by
  have e := ev_zero_of (p := p) (z := z) (addL xs (negL ys)) fun k => by
    rw [cf_addL, negL, cf_smulL]
    have := h k
    rwa [show cf xs k + -1 * cf ys k = cf xs k - cf ys k by omega]
  rw [ev_addL, negL, ev_smulL] at e
  rwa [show ev z xs + -1 * ev z ys = ev z xs - ev z ys by omega] at e
end Mth
namespace Mth
def shn (n : Nat) (g : Cf) : Cf := fun t => if n ≤ t then g (t - n) else 0
theorem shn_succ (n : Nat) (g : Cf) (t : Nat) : shn (n + 1) g t = sh (shn n g) t := by
  cases t with
  | zero => simp [shn, sh]
  | succ t =>
    show (if n + 1 ≤ t + 1 then g (t + 1 - (n + 1)) else 0) = (if n ≤ t then g (t - n) else 0)
    by_cases h : n ≤ t
    · rw [if_pos h, if_pos (by omega), show t + 1 - (n + 1) = t - n by omega]
    · rw [if_neg h, if_neg (by omega)]
theorem cm_snoc (g : Cf) (a : Int) : ∀ (xs : List Int) (t : Nat), cm (xs ++ [a]) g t = cm xs g t + a * shn xs.length g t
  | [], t => by
    rw [List.nil_append, cm_cons, cm_nil, List.length_nil]
    have e : sh (cm [] g) t = 0 := by cases t <;> rfl
    rw [e]
    simp [shn]
  | b :: r, t => by
    rw [List.cons_append, cm_cons, cm_cons, List.length_cons, shn_succ]
    cases t with
    | zero => simp [sh]
    | succ t =>
      show b * g (t + 1) + cm (r ++ [a]) g t = b * g (t + 1) + cm r g t + a * shn r.length g t
      rw [cm_snoc g a r t]
      omega
theorem cf_set {xs : List Int} {k : Nat} {v : Int} (h : k < xs.length) (t : Nat) : cf (xs.set k v) t = if t = k then v else cf xs t := by
  unfold cf
  rw [List.getD_eq_getElem?_getD, List.getD_eq_getElem?_getD, List.getElem?_set]
  by_cases e : k = t
  · rw [if_pos e, if_pos (by omega), if_pos e.symm]
    rfl
  · rw [if_neg e, if_neg (fun z => e z.symm)]
theorem emod_dvd (p x : Int) : p ∣ x % p - x := by
  have := Int.mul_ediv_add_emod x p
  exact ⟨-(x / p), by rw [Int.mul_neg]; omega⟩
theorem mulIn_cf {p a : Int} {two : List Int} {k : Nat} : ∀ (j : Nat) (st : List Int), k + j ≤ st.length → ∀ t, p ∣ cf (mulIn p a two k j st) t - (cf st t + if k ≤ t ∧ t < k + j then a * cf two (t - k) else 0)
  | 0, st, _, t => by
    rw [mulIn, if_neg (by omega), Int.add_zero, Int.sub_self]
    exact Int.dvd_zero p
  | j + 1, st, h, t => by
    have ih := mulIn_cf (p := p) (a := a) (two := two) (k := k) j st (by omega)
    have hl : k + j < (mulIn p a two k j st).length := by rw [mulIn_length]; omega
    rw [mulIn, cf_set hl]
    by_cases e : t = k + j
    · subst e
      rw [if_pos rfl, if_pos (by omega), show k + j - k = j by omega]
      have i1 := ih (k + j)
      rw [if_neg (by omega), Int.add_zero] at i1
      have i2 := emod_dvd p ((mulIn p a two k j st).getD (k + j) 0 + a * two.getD j 0)
      have := Int.dvd_add i2 i1
      rwa [show ((mulIn p a two k j st).getD (k + j) 0 + a * two.getD j 0) % p - ((mulIn p a two k j st).getD (k + j) 0 + a * two.getD j 0) + (cf (mulIn p a two k j st) (k + j) - cf st (k + j)) = ((mulIn p a two k j st).getD (k + j) 0 + a * two.getD j 0) % p - (cf st (k + j) + a * cf two j) by
        show _ + ((mulIn p a two k j st).getD (k + j) 0 - cf st (k + j)) = _ - (_ + a * two.getD j 0)
        omega] at this
    · rw [if_neg e]
      have i1 := ih t
      by_cases c : k ≤ t ∧ t < k + j
      · rw [if_pos c] at i1
        rw [if_pos (by omega)]
        exact i1
      · rw [if_neg c] at i1
        rw [if_neg (by omega)]
        exact i1
theorem mulOut_cf {p : Int} {one two : List Int} : ∀ i, i ≤ one.length → Mth.Eq p (cf (mulOut p one two i)) (cm (one.take i) (cf two))
  | 0, _ => fun t => by
    rw [mulOut, List.take_zero, cm_nil, Int.sub_zero]
    have e : cf (List.replicate (one.length + two.length) 0) t = 0 := by
      unfold cf
      rw [List.getD_eq_getElem?_getD, List.getElem?_replicate]
      split <;> rfl
    rw [e]
    exact Int.dvd_zero p
  | i + 1, h => fun t => by
    have ih := mulOut_cf (p := p) (one := one) (two := two) i (by omega) t
    have hi : one[i]? = some (one.getD i 0) := by
      rw [List.getD_eq_getElem?_getD, List.getElem?_eq_getElem (show i < one.length by omega)]
      rfl
    have m := mulIn_cf (p := p) (a := one.getD i 0) (two := two) (k := i) two.length (mulOut p one two i) (by rw [mulOut_length]; omega) t
    rw [mulOut, List.take_add_one, hi]
    show p ∣ _ - cm (one.take i ++ [one.getD i 0]) (cf two) t
    rw [cm_snoc, List.length_take, Nat.min_eq_left (by omega)]
    have e : (if i ≤ t ∧ t < i + two.length then one.getD i 0 * cf two (t - i) else 0) = one.getD i 0 * shn i (cf two) t := by
      unfold shn
      by_cases c : i ≤ t
      · rw [if_pos c]
        by_cases c2 : t < i + two.length
        · rw [if_pos ⟨c, c2⟩]
        · rw [if_neg (fun z => c2 z.2), cf_ge (by omega), Int.mul_zero]
      · rw [if_neg c, if_neg (fun z => c z.1), Int.mul_zero]
    rw [e] at m
    have := Int.dvd_add m ih
    rwa [show cf (mulIn p (one.getD i 0) two i two.length (mulOut p one two i)) t - (cf (mulOut p one two i) t + one.getD i 0 * shn i (cf two) t) + (cf (mulOut p one two i) t - cm (one.take i) (cf two) t) = cf (mulIn p (one.getD i 0) two i two.length (mulOut p one two i)) t - (cm (one.take i) (cf two) t + one.getD i 0 * shn i (cf two) t) by omega] at this
def mulR (p : Int) (one two : List Int) : List Int := trim (mulOut p one two one.length)
theorem mulR_cf (p : Int) (one two : List Int) : Mth.Eq p (cf (mulR p one two)) (cm one (cf two)) := fun k => by
  have := mulOut_cf (p := p) (one := one) (two := two) one.length (Nat.le_refl _) k
  rw [List.take_length] at this
  unfold mulR
  rw [cf_trim]
  exact this
theorem mulR_row {p : Int} {one two : List Int} (hp : 0 < p) : Row p (mulR p one two) := trim_row (mulOut_rem hp _)
theorem mulR_ev {p : Int} (one two : List Int) (z : Int) : p ∣ ev z (mulR p one two) - ev z one * ev z two := by
  rw [← ev_mulL]
  refine ev_congr ((mulR_cf p one two).trans (Eq.of fun k => (cf_mulL one two k).symm))
def addR (p : Int) (one two : List Int) : List Int := trim ((List.range (max one.length two.length)).map fun k => (one.getD k 0 + two.getD k 0) % p)
def subR (p : Int) (one two : List Int) : List Int := trim ((List.range (max one.length two.length)).map fun k => (one.getD k 0 - two.getD k 0) % p)
theorem cf_range (f : Nat → Int) (n k : Nat) : cf ((List.range n).map f) k = if k < n then f k else 0 := by
  unfold cf
  rw [List.getD_eq_getElem?_getD, List.getElem?_map]
  by_cases h : k < n
  · rw [if_pos h, List.getElem?_range h]
    rfl
  · rw [if_neg h, List.getElem?_eq_none (by rw [List.length_range]; omega)]
    rfl
theorem addR_cf (p : Int) (one two : List Int) : Mth.Eq p (cf (addR p one two)) (fun k => cf one k + cf two k) := fun k => by
  unfold addR
  rw [cf_trim, cf_range]
  by_cases h : k < max one.length two.length
  · rw [if_pos h]
    exact emod_dvd p _
  · rw [if_neg h]
    show p ∣ 0 - (cf one k + cf two k)
    rw [cf_ge (by omega), cf_ge (by omega)]
    exact Int.dvd_zero p
theorem subR_cf (p : Int) (one two : List Int) : Mth.Eq p (cf (subR p one two)) (fun k => cf one k - cf two k) := fun k => by
  unfold subR
  rw [cf_trim, cf_range]
  by_cases h : k < max one.length two.length
  · rw [if_pos h]
    exact emod_dvd p _
  · rw [if_neg h]
    show p ∣ 0 - (cf one k - cf two k)
    rw [cf_ge (by omega), cf_ge (by omega)]
    exact Int.dvd_zero p
theorem range_rem {p : Int} (hp : 0 < p) (f : Nat → Int) (n : Nat) : ∀ x ∈ (List.range n).map (fun k => f k % p), 0 ≤ x ∧ x < p := fun x hx => by
  obtain ⟨k, _, rfl⟩ := List.mem_map.mp hx
  exact ⟨Int.emod_nonneg _ (by omega), Int.emod_lt_of_pos _ hp⟩
theorem addR_row {p : Int} {one two : List Int} (hp : 0 < p) : Row p (addR p one two) := trim_row (range_rem hp _ _)
theorem subR_row {p : Int} {one two : List Int} (hp : 0 < p) : Row p (subR p one two) := trim_row (range_rem hp _ _)
end Mth
namespace Mth
theorem cm_vanish {g : Cf} {m : Nat} (hg : ∀ k, m ≤ k → g k = 0) : ∀ (xs : List Int) (t : Nat), xs.length + m ≤ t + 1 → xs ≠ [] → cm xs g t = 0
  | [], _, _, h => absurd rfl h
  | a :: r, t, h, _ => by
    rw [cm_cons]
    rw [List.length_cons] at h
    rw [hg t (by omega), Int.mul_zero, Int.zero_add]
    cases t with
    | zero => rfl
    | succ t =>
      show cm r g t = 0
      by_cases hr : r = []
      · rw [hr]; rfl
      · exact cm_vanish hg r t (by omega) hr
theorem dvd_cm {p : Int} : ∀ (xs : List Int) (g : Cf), (∀ k, p ∣ cf xs k) → ∀ t, p ∣ cm xs g t
  | [], g, _, t => by rw [cm_nil]; exact Int.dvd_zero p
  | a :: r, g, h, t => by
    rw [cm_cons]
    have h0 : p ∣ a := by have := h 0; rwa [cf_zero] at this
    refine Int.dvd_add (Int.dvd_mul_of_dvd_left h0) ?_
    cases t with
    | zero => exact Int.dvd_zero p
    | succ t => exact dvd_cm r g (fun k => by have := h (k + 1); rwa [cf_succ] at this) t
theorem row_lead {p : Int} {ms : List Int} (hr : Row p ms) (hne : ms ≠ []) : ¬ p ∣ cf ms (ms.length - 1) := fun h => by
  have h0 : 0 < ms.length := List.length_pos_iff.mpr hne
  have hl := hr.last h0
  have hm : cf ms (ms.length - 1) ∈ ms := by
    unfold cf
    rw [List.getD_eq_getElem?_getD, List.getElem?_eq_getElem (by omega)]
    exact List.getElem_mem _
  have hb := hr.all _ hm
  have : cf ms (ms.length - 1) ≠ 0 := hl
  have := Int.le_of_dvd (by omega) h
  omega
theorem short_multiple {p : Int} (P : Pr p) {ms rs : List Int} (hne : ms ≠ []) (hl : ¬ p ∣ cf ms (ms.length - 1)) (hs : rs.length < ms.length) : ∀ (n : Nat) (d : List Int), d.length = n → Mth.Eq p (cm d (cf ms)) (cf rs) → ∀ k, p ∣ cf d k
  | 0, d, hd, _, k => by
    rw [cf_ge (by omega)]
    exact Int.dvd_zero p
  | n + 1, d, hd, h, k => by
    have hdne : d ≠ [] := fun e => by rw [e] at hd; cases hd
    obtain ⟨d', a, rfl⟩ : ∃ d' a, d = d' ++ [a] := ⟨d.dropLast, d.getLast hdne, (List.dropLast_concat_getLast hdne).symm⟩
    have hd' : d'.length = n := by simpa using hd
    have hm0 : 0 < ms.length := List.length_pos_iff.mpr hne
    have ha : p ∣ a := by
      have h1 := h (d'.length + (ms.length - 1))
      rw [cm_snoc, cf_ge (xs := rs) (by omega)] at h1
      have h2 : cm d' (cf ms) (d'.length + (ms.length - 1)) = 0 := by
        by_cases e : d' = []
        · rw [e]; rfl
        · exact cm_vanish (m := ms.length) (fun k hk => cf_ge hk) d' _ (by omega) e
      rw [h2, shn, if_pos (by omega), show d'.length + (ms.length - 1) - d'.length = ms.length - 1 by omega, Int.zero_add, Int.sub_zero] at h1
      rcases P.euclid h1 with z | z
      · exact z
      · exact absurd z hl
    have hsm : Mth.Eq p (cm d' (cf ms)) (cf rs) := fun t => by
      have h1 := h t
      rw [cm_snoc] at h1
      have h2 : p ∣ a * shn d'.length (cf ms) t := Int.dvd_mul_of_dvd_left ha
      have := Int.dvd_sub h1 h2
      rwa [show cm d' (cf ms) t + a * shn d'.length (cf ms) t - cf rs t - a * shn d'.length (cf ms) t = cm d' (cf ms) t - cf rs t by omega] at this
    have ih := short_multiple P hne hl hs n d' hd' hsm
    by_cases hk : k < d'.length
    · have e : cf (d' ++ [a]) k = cf d' k := by
        unfold cf
        rw [List.getD_eq_getElem?_getD, List.getD_eq_getElem?_getD, List.getElem?_append_left hk]
      rw [e]
      exact ih k
    · by_cases hk2 : k = d'.length
      · have e : cf (d' ++ [a]) k = a := by
          unfold cf
          rw [List.getD_eq_getElem?_getD, List.getElem?_append_right (by omega), hk2, Nat.sub_self]
          rfl
        rw [e]
        exact ha
      · rw [cf_ge (by simp; omega)]
        exact Int.dvd_zero p
theorem row_nil (p : Int) : Row p [] := ⟨(fun x hx => absurd hx (List.not_mem_nil)), (fun hx => absurd hx (Nat.lt_irrefl 0))⟩
def Dvs (p : Int) (ms ns : List Int) : Prop := ∃ q : List Int, Mth.Eq p (cf ns) (cm q (cf ms))
theorem dvs_iff {p : Int} (P : Pr p) {ns ms qs rs : List Int} (hm : Row p ms) (hr : Row p rs) (hs : rs.length < ms.length) (h : Mth.Eq p (cf ns) (fun k => cm qs (cf ms) k + cf rs k)) : Dvs p ms ns ↔ rs = [] := by
  have hne : ms ≠ [] := fun e => by rw [e] at hs; exact Nat.not_lt_zero _ hs
  constructor
  · rintro ⟨q, hq⟩
    have h1 : Mth.Eq p (cm (addL q (smulL (-1) qs)) (cf ms)) (cf rs) := fun k => by
      rw [cm_addL, cm_smulL]
      have a := hq k
      have b := h k
      have := Int.dvd_sub b a
      rwa [show cf ns k - (cm qs (cf ms) k + cf rs k) - (cf ns k - cm q (cf ms) k) = cm q (cf ms) k + -1 * cm qs (cf ms) k - cf rs k by omega] at this
    have h2 := short_multiple P hne (row_lead hm hne) hs _ _ rfl h1
    have h3 : ∀ k, p ∣ cf rs k := fun k => by
      have a := dvd_cm _ (cf ms) h2 k
      have b := h1 k
      have := Int.dvd_sub a b
      rwa [show cm (addL q (smulL (-1) qs)) (cf ms) k - (cm (addL q (smulL (-1) qs)) (cf ms) k - cf rs k) = cf rs k by omega] at this
    have hp := P.lo
    refine row_eq (by omega) hr (row_nil p) fun k => ?_
    rw [cf_nil, Int.sub_zero]
    exact h3 k
  · rintro rfl
    exact ⟨qs, fun k => by have a : p ∣ cf ns k - (cm qs (cf ms) k + cf [] k) := h k; rwa [cf_nil, Int.add_zero] at a⟩
theorem dvs_nil {p : Int} (hp : 0 < p) {ns : List Int} (hn : Row p ns) : Dvs p [] ns ↔ ns = [] := by
  constructor
  · rintro ⟨q, hq⟩
    refine row_eq hp hn (row_nil p) fun k => ?_
    have a := hq k
    rw [show cm q (cf []) k = 0 from (cm_congr q (fun k => cf_nil k) k).trans (cm_zero_fn q k)] at a
    rw [cf_nil]
    exact a
  · rintro rfl
    exact ⟨[], fun k => by rw [cf_nil, cm_nil]; exact Int.dvd_zero p⟩
theorem dvs_empty (p : Int) (ms : List Int) : Dvs p ms [] := ⟨[], fun k => by rw [cf_nil, cm_nil]; exact Int.dvd_zero p⟩
end Mth
namespace Mth
theorem apart {p : Int} {zs : List Int} (hz : zs.Nodup) (hb : ∀ z ∈ zs, 0 ≤ z ∧ z < p) : zs.Pairwise (fun a b => ¬ p ∣ b - a) := by
  refine List.Pairwise.imp_of_mem ?_ hz
  intro a b ha hb' hne hd
  have h1 := hb a ha
  have h2 := hb b hb'
  exact hne (rem_eq hd h2.1 h2.2 h1.1 h1.2).symm
end Mth
namespace Mth
end Mth
namespace Mth
end Mth
namespace Mth
def spots (f c s r : Int) (m : Nat) : List Int := (List.range m).map fun (k : Nat) => f + (c + (k : Int) * s) % r
end Mth
namespace Mth
end Mth
namespace Mth
def mulC (p c : Int) (xs : List Int) : List Int := trim (xs.map fun x => x * c % p)
theorem cf_map0 (f : Int → Int) (h0 : f 0 = 0) : ∀ (xs : List Int) (k : Nat), cf (xs.map f) k = f (cf xs k)
  | [], k => by rw [List.map_nil, cf_nil, h0]
  | a :: r, k => by
    rw [List.map_cons]
    cases k with
    | zero => rw [cf_zero, cf_zero]
    | succ k => rw [cf_succ, cf_succ, cf_map0 f h0 r k]
theorem mulC_cf (p c : Int) (xs : List Int) : Mth.Eq p (cf (mulC p c xs)) (fun k => c * cf xs k) := fun k => by
  unfold mulC
  rw [cf_trim, cf_map0 (fun x => x * c % p) (by simp)]
  show p ∣ cf xs k * c % p - c * cf xs k
  rw [Int.mul_comm c]
  exact emod_dvd p _
theorem mulC_row {p c : Int} {xs : List Int} (hp : 0 < p) : Row p (mulC p c xs) := trim_row fun x hx => by
  obtain ⟨y, _, rfl⟩ := List.mem_map.mp hx
  exact ⟨Int.emod_nonneg _ (by omega), Int.emod_lt_of_pos _ hp⟩
theorem mulC_len (p c : Int) (xs : List Int) : (mulC p c xs).length ≤ xs.length := by
  have := trim_le (xs.map fun x => x * c % p)
  rw [List.length_map] at this
  exact this
theorem addR_len (p : Int) (one two : List Int) : (addR p one two).length ≤ max one.length two.length := by
  have := trim_le ((List.range (max one.length two.length)).map fun k => (one.getD k 0 + two.getD k 0) % p)
  rw [List.length_map, List.length_range] at this
  exact this
theorem subR_len (p : Int) (one two : List Int) : (subR p one two).length ≤ max one.length two.length := by
  have := trim_le ((List.range (max one.length two.length)).map fun k => (one.getD k 0 - two.getD k 0) % p)
  rw [List.length_map, List.length_range] at this
  exact this
theorem row_short {p : Int} {xs : List Int} {L : Nat} (hx : Row p xs) (h : ∀ k, L ≤ k → p ∣ cf xs k) : xs.length ≤ L := by
  by_cases c : xs.length ≤ L
  · exact c
  · have hne : xs ≠ [] := fun e => by rw [e] at c; exact c (Nat.zero_le _)
    exact absurd (h _ (by omega)) (row_lead hx hne)
theorem mulR_short {p : Int} {one two : List Int} (hp : 0 < p) : (mulR p one two).length ≤ one.length + two.length - 1 := by
  refine row_short (mulR_row hp) fun k hk => ?_
  have h := mulR_cf p one two k
  have h0 : cm one (cf two) k = 0 := by
    by_cases e : one = []
    · rw [e]; rfl
    · exact cm_vanish (m := two.length) (fun k hk => cf_ge hk) one k (by omega) e
  rw [h0, Int.sub_zero] at h
  exact h
theorem emod_of {p a y : Int} (h : p ∣ a - y) (h0 : 0 ≤ y) (h1 : y < p) : a % p = y := by
  obtain ⟨c, e⟩ := h
  rw [show a = y + p * c by omega, Int.add_mul_emod_self_left]
  exact Int.emod_eq_of_lt h0 h1
theorem ev_sum {p c z : Int} {row rs ss : List Int} (h : Mth.Eq p (cf row) (fun k => cf rs k + c * cf ss k)) : p ∣ ev z row - (ev z rs + c * ev z ss) := by
  have := ev_congr (p := p) (z := z) (xs := row) (ys := addL rs (smulL c ss)) (fun k => by rw [cf_addL, cf_smulL]; exact h k)
  rwa [ev_addL, ev_smulL] at this
theorem led_eq {p : Int} (c : Int) (rs ss : List Int) : Mth.Eq p (cf (addR p rs (mulC p c ss))) (fun k => cf rs k + c * cf ss k) :=
  (addR_cf p rs (mulC p c ss)).trans (Eq.add (Eq.refl p _) (mulC_cf p c ss))
theorem inv_dvd {p f w : Int} (hp : 1 < p) (hf : f * (w % p) % p = 1) : p ∣ f * w - 1 := by
  have d1 : p ∣ f * (w % p) - 1 := by
    refine Int.dvd_of_emod_eq_zero ?_
    rw [Int.sub_emod, hf, Int.emod_eq_of_lt (by omega) hp, Int.sub_self, Int.zero_emod]
  have d2 : p ∣ f * (w % p - w) := Int.dvd_mul_of_dvd_right (emod_dvd p w)
  have := Int.dvd_sub d1 d2
  rw [Int.mul_sub] at this
  rwa [show f * (w % p) - 1 - (f * (w % p) - f * w) = f * w - 1 by omega] at this
theorem led_at {p f x y : Int} (hp : 1 < p) {rs ss row : List Int} (hy0 : 0 ≤ y) (hy1 : y < p) (hf : f * (ev x ss % p) % p = 1)
    (h : Mth.Eq p (cf row) (fun k => cf rs k + ((y - ev x rs % p) * f) * cf ss k)) : ev x row % p = y := by
  refine emod_of ?_ hy0 hy1
  have h1 := ev_sum (z := x) h
  have d2 := inv_dvd hp hf
  have d3 : p ∣ (y - ev x rs % p) * (f * ev x ss - 1) := Int.dvd_mul_of_dvd_right d2
  have d4 := emod_dvd p (ev x rs)
  rw [Int.mul_assoc] at h1
  rw [Int.mul_sub, Int.mul_one] at d3
  have := Int.dvd_sub (Int.dvd_add h1 d3) d4
  generalize (y - ev x rs % p) * (f * ev x ss) = M at *
  rwa [show ev x row - (ev x rs + M) + (M - (y - ev x rs % p)) - (ev x rs % p - ev x rs) = ev x row - y by omega] at this
def Thru (p : Int) (pts : List (Int × Int)) (row : List Int) : Prop := Row p row ∧ row.length ≤ pts.length ∧ ∀ xy ∈ pts, ev xy.1 row % p = xy.2
structure Still (p : Int) (pts : List (Int × Int)) (ss : List Int) : Prop where
  row : Row p ss
  len : ss.length ≤ pts.length + 1
  zero : ∀ xy ∈ pts, p ∣ ev xy.1 ss
  off : ∀ z : Int, (∀ xy ∈ pts, ¬ p ∣ z - xy.1) → ¬ p ∣ ev z ss
theorem Thru.nil (p : Int) : Thru p [] [] := ⟨row_nil p, Nat.le_refl _, fun _ h => absurd h List.not_mem_nil⟩
theorem Still.nil {p : Int} (P : Pr p) : Still p [] [1] := by
  have p2 := P.lo
  refine ⟨⟨fun x hx => ?_, fun _ => by decide⟩, Nat.le_refl _, fun _ h => absurd h List.not_mem_nil, fun z _ h => ?_⟩
  · have : x = 1 := by simpa using hx
    omega
  · have e : ev z [1] = 1 := by simp [ev]
    rw [e] at h
    have := Int.le_of_dvd (by omega) h
    omega
theorem thru_next {p c x y : Int} {pts : List (Int × Int)} {rs ss row : List Int} (hb : ∀ xy ∈ pts, 0 ≤ xy.2 ∧ xy.2 < p) (T : Thru p pts rs) (S : Still p pts ss) (hr : Row p row) (hl : row.length ≤ max rs.length ss.length)
    (h : Mth.Eq p (cf row) (fun k => cf rs k + c * cf ss k)) (hx : ev x row % p = y) : Thru p (pts ++ [(x, y)]) row := by
  refine ⟨hr, ?_, fun uv huv => ?_⟩
  · have := T.2.1
    have := S.len
    rw [List.length_append, List.length_singleton]
    omega
  · rcases List.mem_append.mp huv with huv | huv
    · have h1 := ev_sum (z := uv.1) h
      have h2 : p ∣ c * ev uv.1 ss := Int.dvd_mul_of_dvd_right (S.zero uv huv)
      have h3 := Int.dvd_add h1 h2
      rw [show ev uv.1 row - (ev uv.1 rs + c * ev uv.1 ss) + c * ev uv.1 ss = ev uv.1 row - ev uv.1 rs by omega] at h3
      have h4 := emod_dvd p (ev uv.1 rs)
      rw [T.2.2 uv huv] at h4
      have h5 := Int.dvd_sub h3 h4
      rw [show ev uv.1 row - ev uv.1 rs - (uv.2 - ev uv.1 rs) = ev uv.1 row - uv.2 by omega] at h5
      exact emod_of h5 (hb uv huv).1 (hb uv huv).2
    · have e : uv = (x, y) := by simpa using huv
      rw [e]
      exact hx
theorem ev_lin (z a : Int) : ev z [a, 1] = a + z := by simp [ev]
theorem still_next {p x y : Int} {pts : List (Int × Int)} {ss : List Int} (P : Pr p) (S : Still p pts ss) : Still p (pts ++ [(x, y)]) (mulR p ss [-x % p, 1]) := by
  have p2 := P.lo
  have hm : p ∣ -x % p - -x := emod_dvd p (-x)
  refine ⟨mulR_row (by omega), ?_, fun uv huv => ?_, fun z hz hd => ?_⟩
  · have := mulR_short (p := p) (one := ss) (two := [-x % p, 1]) (by omega)
    have := S.len
    rw [List.length_append, List.length_singleton]
    simp only [List.length_cons, List.length_nil] at *
    omega
  · have h := mulR_ev (p := p) ss [-x % p, 1] uv.1
    rw [ev_lin] at h
    have h2 : p ∣ ev uv.1 ss * (-x % p + uv.1) := by
      rcases List.mem_append.mp huv with huv | huv
      · exact Int.dvd_mul_of_dvd_left (S.zero uv huv)
      · have e : uv = (x, y) := by simpa using huv
        rw [e]
        refine Int.dvd_mul_of_dvd_right ?_
        rwa [show -x % p - -x = -x % p + x by omega] at hm
    have := Int.dvd_add h h2
    rwa [show ev uv.1 (mulR p ss [-x % p, 1]) - ev uv.1 ss * (-x % p + uv.1) + ev uv.1 ss * (-x % p + uv.1) = ev uv.1 (mulR p ss [-x % p, 1]) by omega] at this
  · have h := mulR_ev (p := p) ss [-x % p, 1] z
    rw [ev_lin] at h
    have h2 := Int.dvd_sub hd h
    rw [show ev z (mulR p ss [-x % p, 1]) - (ev z (mulR p ss [-x % p, 1]) - ev z ss * (-x % p + z)) = ev z ss * (-x % p + z) by omega] at h2
    rcases P.euclid h2 with h3 | h3
    · exact S.off z (fun uv huv => hz uv (List.mem_append_left _ huv)) h3
    · have h4 := Int.dvd_sub h3 hm
      rw [show -x % p + z - (-x % p - -x) = z - x by omega] at h4
      exact hz (x, y) (List.mem_append_right _ (by simp)) h4
theorem apart_at {p : Int} {pts : List (Int × Int)} (hN : (pts.map Prod.fst).Nodup) (hb : ∀ xy ∈ pts, 0 ≤ xy.1 ∧ xy.1 < p) {i : Nat} {xy : Int × Int} (h : pts[i]? = some xy) : ∀ uv ∈ pts.take i, ¬ p ∣ xy.1 - uv.1 := by
  intro uv huv hd
  obtain ⟨hi, e⟩ := List.getElem?_eq_some_iff.mp h
  have e2 : pts = pts.take i ++ xy :: pts.drop (i + 1) := by
    conv => lhs; rw [← List.take_append_drop i pts]
    rw [List.drop_eq_getElem_cons hi, e]
  have h1 := hb xy (List.mem_of_getElem? h)
  have h2 := hb uv (List.mem_of_mem_take huv)
  have h3 := rem_eq hd h1.1 h1.2 h2.1 h2.2
  rw [e2, List.map_append, List.map_cons] at hN
  have h4 := (List.nodup_append.mp hN).2.2 uv.1 (List.mem_map_of_mem huv) xy.1 List.mem_cons_self
  exact h4 h3.symm
end Mth
namespace Mth
theorem cm_set0 (g : Cf) (v : Int) : ∀ (xs : List Int) (k t : Nat), k < xs.length → cf xs k = 0 → cm (xs.set k v) g t = cm xs g t + v * shn k g t
  | [], k, t, h, _ => absurd h (Nat.not_lt_zero k)
  | a :: r, 0, t, _, h0 => by
    rw [cf_zero] at h0
    rw [List.set_cons_zero, cm_cons, cm_cons, h0, Int.zero_mul]
    have e : shn 0 g t = g t := by simp [shn]
    rw [e]
    omega
  | a :: r, k + 1, t, h, h0 => by
    rw [cf_succ] at h0
    rw [List.set_cons_succ, cm_cons, cm_cons, shn_succ]
    have h' : k < r.length := by simpa using h
    cases t with
    | zero => simp [sh]
    | succ t =>
      show a * g (t + 1) + cm (r.set k v) g t = a * g (t + 1) + cm r g t + v * shn k g t
      rw [cm_set0 g v r k t h' h0]
      omega
theorem row_top {p : Int} {ms : List Int} (hr : Row p ms) (hne : ms ≠ []) : 0 < ms.getD (ms.length - 1) 0 ∧ ms.getD (ms.length - 1) 0 < p := by
  have h0 : 0 < ms.length := List.length_pos_iff.mpr hne
  have hl := hr.last h0
  have hm : ms.getD (ms.length - 1) 0 ∈ ms := by
    rw [List.getD_eq_getElem?_getD, List.getElem?_eq_getElem (by omega)]
    exact List.getElem_mem _
  have hb := hr.all _ hm
  omega
theorem zero_of {p x : Int} (h : p ∣ x) (h0 : 0 ≤ x) (h1 : x < p) : x = 0 := by
  by_cases e : x = 0
  · exact e
  · have := Int.le_of_dvd (by omega) h
    omega
structure DivAt (p : Int) (ns ms : List Int) (i : Nat) (RS QS : List Int) : Prop where
  rl : RS.length = ns.length
  ql : QS.length = ns.length + 1 - ms.length
  rb : Rem p RS
  qb : Rem p QS
  eq : Mth.Eq p (cf ns) (fun k => cm QS (cf ms) k + cf RS k)
  hi : ∀ k, ns.length - i ≤ k → cf RS k = 0
  lo : ∀ k, k + i < QS.length → cf QS k = 0
  top : 0 < i → QS.getD (QS.length - 1) 0 ≠ 0
  first : i = 0 → RS = ns
theorem cf_rep (n k : Nat) : cf (List.replicate n 0) k = 0 := by
  unfold cf
  rw [List.getD_eq_getElem?_getD, List.getElem?_replicate]
  split <;> rfl
theorem cm_none : ∀ (xs : List Int) (g : Cf), (∀ k, cf xs k = 0) → ∀ t, cm xs g t = 0
  | [], g, _, t => rfl
  | a :: r, g, h, t => by
    have h0 := h 0
    rw [cf_zero] at h0
    rw [cm_cons, h0, Int.zero_mul, Int.zero_add]
    cases t with
    | zero => rfl
    | succ t => exact cm_none r g (fun k => by have := h (k + 1); rwa [cf_succ] at this) t
theorem DivAt.start {p : Int} {ns ms : List Int} (hp : 0 < p) (hn : Row p ns) : DivAt p ns ms 0 ns (List.replicate (ns.length + 1 - ms.length) 0) where
  rl := rfl
  ql := by simp
  rb := hn.all
  qb := fun x hx => by
    have := List.eq_of_mem_replicate hx
    omega
  eq := Eq.of fun k => by rw [cm_none _ _ (cf_rep _) k, Int.zero_add]
  hi := fun k hk => cf_ge (by omega)
  lo := fun k _ => cf_rep _ k
  top := fun h => absurd h (Nat.lt_irrefl 0)
  first := fun _ => rfl
theorem DivAt.step {p g v : Int} {ns ms RS QS : List Int} {i pw : Nat} (P : Pr p) (hn : Row p ns) (hm : Row p ms) (hne : ms ≠ []) (hg : g * ms.getD (ms.length - 1) 0 % p = 1) (D : DivAt p ns ms i RS QS) (hi : i < QS.length) (hpw : pw + ms.length + i = ns.length)
    (hv : v = RS.getD (pw + (ms.length - 1)) 0 * g % p) : DivAt p ns ms (i + 1) (mulIn p (-v) ms pw ms.length RS) (QS.set pw v) := by
  have p2 := P.lo
  have h0 : 0 < ms.length := List.length_pos_iff.mpr hne
  have hrl := D.rl
  have hql := D.ql
  have v0 : 0 ≤ v := by rw [hv]; exact Int.emod_nonneg _ (by omega)
  have v1 : v < p := by rw [hv]; exact Int.emod_lt_of_pos _ (by omega)
  have hg1 : p ∣ g * ms.getD (ms.length - 1) 0 - 1 := by
    refine Int.dvd_of_emod_eq_zero ?_
    rw [Int.sub_emod, hg, Int.emod_eq_of_lt (show (0 : Int) ≤ 1 by omega) (show (1 : Int) < p by omega), Int.sub_self, Int.zero_emod]
  have hM : ∀ k, p ∣ cf (mulIn p (-v) ms pw ms.length RS) k - (cf RS k + -v * shn pw (cf ms) k) := fun k => by
    have m := mulIn_cf (p := p) (a := -v) (two := ms) (k := pw) ms.length RS (by omega) k
    have e : (if pw ≤ k ∧ k < pw + ms.length then -v * cf ms (k - pw) else 0) = -v * shn pw (cf ms) k := by
      unfold shn
      by_cases c : pw ≤ k
      · rw [if_pos c]
        by_cases c2 : k < pw + ms.length
        · rw [if_pos ⟨c, c2⟩]
        · rw [if_neg (fun z => c2 z.2), cf_ge (by omega), Int.mul_zero]
      · rw [if_neg c, if_neg (fun z => c z.1), Int.mul_zero]
    rwa [e] at m
  have hrb : Rem p (mulIn p (-v) ms pw ms.length RS) := mulIn_rem (by omega) _ _ D.rb
  have hx : p ∣ RS.getD (pw + (ms.length - 1)) 0 * g - v := by
    have := emod_dvd p (RS.getD (pw + (ms.length - 1)) 0 * g)
    rw [← hv] at this
    have := Int.dvd_neg.mpr this
    rwa [Int.neg_sub] at this
  refine ⟨by rw [mulIn_length]; exact hrl, by rw [List.length_set]; exact hql, hrb, D.qb.set _ ⟨v0, v1⟩, fun k => ?_, fun k hk => ?_, fun k hk => ?_, fun _ => ?_, fun h => absurd h (Nat.succ_ne_zero i)⟩
  · show p ∣ cf ns k - (cm (QS.set pw v) (cf ms) k + cf (mulIn p (-v) ms pw ms.length RS) k)
    rw [cm_set0 (cf ms) v QS pw k (by omega) (D.lo pw (by omega))]
    have a := D.eq k
    have b := hM k
    have c := Int.dvd_sub a b
    rw [Int.neg_mul] at c
    generalize v * shn pw (cf ms) k = M at *
    rwa [show cf ns k - (cm QS (cf ms) k + cf RS k) - (cf (mulIn p (-v) ms pw ms.length RS) k - (cf RS k + -M)) = cf ns k - (cm QS (cf ms) k + M + cf (mulIn p (-v) ms pw ms.length RS) k) by omega] at c
  · have hb := cf_row hrb (show 0 < p by omega) k
    refine zero_of ?_ hb.1 hb.2
    have m := hM k
    by_cases c : ns.length - i ≤ k
    · rw [D.hi k c] at m
      have e : shn pw (cf ms) k = 0 := by
        unfold shn
        rw [if_pos (by omega), cf_ge (by omega)]
      rw [e, Int.mul_zero, Int.add_zero, Int.sub_zero] at m
      exact m
    · have ek : k = pw + (ms.length - 1) := by omega
      have e : shn pw (cf ms) k = ms.getD (ms.length - 1) 0 := by
        unfold shn
        rw [if_pos (by omega), show k - pw = ms.length - 1 by omega]
        rfl
      rw [e, Int.neg_mul] at m
      have exk : cf RS k = RS.getD (pw + (ms.length - 1)) 0 := by rw [ek]; rfl
      rw [exk] at m
      generalize RS.getD (pw + (ms.length - 1)) 0 = x at *
      generalize ms.getD (ms.length - 1) 0 = l at *
      have d1 : p ∣ x * (g * l - 1) := Int.dvd_mul_of_dvd_right hg1
      have d2 : p ∣ (x * g - v) * l := Int.dvd_mul_of_dvd_left hx
      rw [Int.mul_sub, Int.mul_one, ← Int.mul_assoc] at d1
      rw [Int.sub_mul] at d2
      have d3 := Int.dvd_add m (Int.dvd_sub d2 d1)
      generalize x * g * l = A at *
      generalize v * l = B at *
      rwa [show cf (mulIn p (-v) ms pw ms.length RS) k - (x + -B) + (A - B - (A - x)) = cf (mulIn p (-v) ms pw ms.length RS) k by omega] at d3
  · rw [List.length_set] at hk
    rw [cf_set (by omega), if_neg (by omega)]
    exact D.lo k (by omega)
  · rw [List.length_set]
    show cf (QS.set pw v) (QS.length - 1) ≠ 0
    rw [cf_set (by omega)]
    by_cases c : QS.length - 1 = pw
    · rw [if_pos c]
      intro z
      have hi0 : i = 0 := by omega
      have hRS := D.first hi0
      rw [z, Int.sub_zero] at hx
      have hnn : ns ≠ [] := fun e => by rw [e, List.length_nil] at hpw; omega
      have ht := row_top hn hnn
      rw [hRS, show pw + (ms.length - 1) = ns.length - 1 by omega] at hx
      rcases P.euclid hx with h | h
      · have := Int.le_of_dvd ht.1 h
        omega
      · have := Int.dvd_sub (Int.dvd_mul_of_dvd_left (b := g) (c := ms.getD (ms.length - 1) 0) h) hg1
        rw [show g * ms.getD (ms.length - 1) 0 - (g * ms.getD (ms.length - 1) 0 - 1) = 1 by omega] at this
        have := Int.le_of_dvd (by omega) this
        omega
    · rw [if_neg c]
      exact D.top (by omega)
theorem DivAt.done {p : Int} {ns ms RS QS : List Int} (hne : ms ≠ []) (D : DivAt p ns ms QS.length RS QS) : Row p QS ∧ Row p (trim RS) ∧ (trim RS).length < ms.length ∧ Mth.Eq p (cf ns) (fun k => cm QS (cf ms) k + cf (trim RS) k) := by
  have h0 : 0 < ms.length := List.length_pos_iff.mpr hne
  have hql := D.ql
  refine ⟨⟨D.qb, fun h => D.top h⟩, trim_row D.rb, ?_, fun k => ?_⟩
  · have := row_short (L := ms.length - 1) (trim_row D.rb) fun k hk => by
      rw [cf_trim, D.hi k (by omega)]
      exact Int.dvd_zero p
    omega
  · show p ∣ cf ns k - (cm QS (cf ms) k + cf (trim RS) k)
    rw [cf_trim]
    exact D.eq k
end Mth
namespace Mth
theorem dvs_refl (p : Int) (ns : List Int) : Dvs p ns ns := ⟨[1], Eq.of fun k => (cm_one (cf ns) k).symm⟩
theorem dvs_trans {p : Int} {a b c : List Int} (h1 : Dvs p a b) (h2 : Dvs p b c) : Dvs p a c := by
  obtain ⟨q1, e1⟩ := h1
  obtain ⟨q2, e2⟩ := h2
  refine ⟨mulL q2 q1, e2.trans ((Eq.cm e1 q2).trans (Eq.of fun k => ?_))⟩
  rw [cm_assoc]
theorem dvs_lin {p : Int} {d a b c u v : List Int} (h1 : Dvs p d a) (h2 : Dvs p d b) (e : Mth.Eq p (cf c) (fun k => cm u (cf a) k + cm v (cf b) k)) : Dvs p d c := by
  obtain ⟨q1, e1⟩ := h1
  obtain ⟨q2, e2⟩ := h2
  refine ⟨addL (mulL u q1) (mulL v q2), e.trans ((Eq.add (Eq.cm e1 u) (Eq.cm e2 v)).trans (Eq.of fun k => ?_))⟩
  rw [cm_addL, cm_assoc, cm_assoc]
theorem sub_mul_cf {p : Int} (a q b : List Int) : Mth.Eq p (cf (subR p a (mulR p q b))) (cf (addL a (smulL (-1) (mulL q b)))) :=
  (subR_cf p a (mulR p q b)).trans ((Eq.sub (Eq.refl p (cf a)) (mulR_cf p q b)).trans (Eq.of fun k => by
    show cf a k - cm q (cf b) k = _
    rw [cf_addL, cf_smulL, cf_mulL]
    omega))
theorem sub_mul_cm {p : Int} (a q b c : List Int) : Mth.Eq p (cm (subR p a (mulR p q b)) (cf c)) (fun k => cm a (cf c) k - cm q (cm b (cf c)) k) :=
  (Eq.cmL (sub_mul_cf a q b) c).trans (Eq.of fun k => by
    rw [cm_addL, cm_smulL, cm_assoc]
    omega)
theorem mulR_nil {p : Int} (hp : 0 < p) (b : List Int) : mulR p [] b = [] := by
  refine row_eq hp (mulR_row hp) (row_nil p) fun k => ?_
  have := mulR_cf p [] b k
  rwa [cm_nil] at this
structure CmAt (p : Int) (one two : List Int) (L : Nat) (h0 h1 h2 l0 l1 l2 : List Int) : Prop where
  rh0 : Row p h0
  rh1 : Row p h1
  rh2 : Row p h2
  rl0 : Row p l0
  rl1 : Row p l1
  rl2 : Row p l2
  eh : Mth.Eq p (cf h0) (fun k => cm h1 (cf one) k + cm h2 (cf two) k)
  el : Mth.Eq p (cf l0) (fun k => cm l1 (cf one) k + cm l2 (cf two) k)
  bk : ∀ d, Dvs p d h0 → Dvs p d l0 → Dvs p d one ∧ Dvs p d two
  b0 : h0.length ≤ L
  b1 : l1.length + h0.length ≤ L + 1
  b2 : l2.length + h0.length ≤ L + 1
  b3 : h1.length + l0.length ≤ L + 1
  b4 : h2.length + l0.length ≤ L + 1
  b5 : l0.length ≤ L
theorem one_row {p : Int} (P : Pr p) : Row p [1] := (Still.nil P).row
theorem CmAt.start {p : Int} {one two : List Int} {L : Nat} (P : Pr p) (h1 : Row p one) (h2 : Row p two) (l1 : one.length ≤ L) (l2 : two.length ≤ L) : CmAt p one two L one [1] [] two [] [1] where
  rh0 := h1
  rh1 := one_row P
  rh2 := row_nil p
  rl0 := h2
  rl1 := row_nil p
  rl2 := one_row P
  eh := Eq.of fun k => by rw [cm_one, cm_nil, Int.add_zero]
  el := Eq.of fun k => by rw [cm_one, cm_nil, Int.zero_add]
  bk := fun d a b => ⟨a, b⟩
  b0 := l1
  b1 := by simp; omega
  b2 := by simp; omega
  b3 := by simp; omega
  b4 := by simp; omega
  b5 := l2
theorem CmAt.step {p : Int} {one two h0 h1 h2 l0 l1 l2 q rs : List Int} {L : Nat} (P : Pr p) (C : CmAt p one two L h0 h1 h2 l0 l1 l2) (hl : l0 ≠ []) (hr : Row p rs) (hs : rs.length < l0.length) (hq : q.length = h0.length + 1 - l0.length) (he : Mth.Eq p (cf h0) (fun k => cm q (cf l0) k + cf rs k)) :
    subR p h0 (mulR p q l0) = rs ∧ CmAt p one two L l0 l1 l2 (subR p h0 (mulR p q l0)) (subR p h1 (mulR p q l1)) (subR p h2 (mulR p q l2)) := by
  have p2 := P.lo
  have e0 : Mth.Eq p (cf (subR p h0 (mulR p q l0))) (cf rs) := (sub_mul_cf h0 q l0).trans fun k => by
    rw [cf_addL, cf_smulL, cf_mulL]
    have := he k
    rwa [show cf h0 k + -1 * cm q (cf l0) k - cf rs k = cf h0 k - (cm q (cf l0) k + cf rs k) by omega]
  have ers : subR p h0 (mulR p q l0) = rs := row_eq (by omega) (subR_row (by omega)) hr e0
  have hn := C.b0
  have b1 := C.b1
  have b2 := C.b2
  have b3 := C.b3
  have b4 := C.b4
  have b5 := C.b5
  have hshort : rs.length ≤ h0.length := by
    by_cases c : l0.length ≤ h0.length
    · omega
    · have eq : q = [] := List.length_eq_zero_iff.mp (by omega)
      rw [eq] at he
      have : h0 = rs := row_eq (by omega) C.rh0 hr fun k => by
        have a : p ∣ cf h0 k - (cm [] (cf l0) k + cf rs k) := he k
        rwa [cm_nil, Int.zero_add] at a
      rw [this]
      exact Nat.le_refl _
  have hbound : ∀ x y : List Int, x.length + l0.length ≤ L + 1 → y.length + h0.length ≤ L + 1 → (subR p x (mulR p q y)).length + l0.length ≤ L + 1 := fun x y hx hy => by
    have s1 := subR_len p x (mulR p q y)
    by_cases c : q = []
    · rw [c, mulR_nil (by omega)] at s1 ⊢
      simp only [List.length_nil] at s1
      omega
    · have s2 := mulR_short (p := p) (one := q) (two := y) (by omega)
      have : 0 < q.length := List.length_pos_iff.mpr c
      omega
  refine ⟨ers, ⟨C.rl0, C.rl1, C.rl2, subR_row (by omega), subR_row (by omega), subR_row (by omega), C.el, ?_, fun d a b => ?_, b5, ?_, ?_, ?_, ?_, ?_⟩⟩
  · refine ((sub_mul_cf h0 q l0).trans (Eq.of fun k => ?_)).trans ((Eq.sub C.eh (Eq.cm C.el q)).trans ?_) (g := fun k => cf h0 k - cm q (cf l0) k)
    · rw [cf_addL, cf_smulL, cf_mulL]
      omega
    · refine Eq.symm ((Eq.add (sub_mul_cm h1 q l1 one) (sub_mul_cm h2 q l2 two)).trans (Eq.of fun k => ?_))
      rw [cm_add]
      omega
  · rw [ers] at b
    refine C.bk d (dvs_lin a b (u := q) (v := [1]) (he.trans (Eq.of fun k => ?_))) a
    rw [cm_one]
  · exact hbound h1 l1 b3 b1
  · exact hbound h2 l2 b4 b2
  · rw [ers]
    omega
  · rw [ers]
    omega
  · rw [ers]
    omega
structure CmRes (p : Int) (one two g u v : List Int) : Prop where
  rg : Row p g
  ru : Row p u
  rv : Row p v
  eq : Mth.Eq p (cf g) (fun k => cm u (cf one) k + cm v (cf two) k)
  nil : g = [] ↔ one = [] ∧ two = []
  last : g ≠ [] → g.getD (g.length - 1) 0 = 1
  d1 : Dvs p g one
  d2 : Dvs p g two
  gr : ∀ d, Dvs p d one → Dvs p d two → Dvs p d g
theorem mulC_cm {p c : Int} (xs ys : List Int) : Mth.Eq p (cm (mulC p c xs) (cf ys)) (fun k => c * cm xs (cf ys) k) :=
  (Eq.cmL (ys := smulL c xs) ((mulC_cf p c xs).trans (Eq.of fun k => by rw [cf_smulL])) ys).trans (Eq.of fun k => by rw [cm_smulL])
theorem Eq.smul {p : Int} (c : Int) {g h : Cf} (e : Mth.Eq p g h) : Mth.Eq p (fun k => c * g k) (fun k => c * h k) := fun k => by
  show p ∣ c * g k - c * h k
  rw [← Int.mul_sub]
  exact Int.dvd_mul_of_dvd_right (e k)
theorem mulC_last {p f : Int} (P : Pr p) {h : List Int} (hh : Row p h) (hne : h ≠ []) (hf : f * h.getD (h.length - 1) 0 % p = 1) : (mulC p f h).length = h.length ∧ (mulC p f h).getD (h.length - 1) 0 = 1 := by
  have p2 := P.lo
  have h0 : 0 < h.length := List.length_pos_iff.mpr hne
  have e : cf (mulC p f h) (h.length - 1) = 1 := by
    have d := mulC_cf p f h (h.length - 1)
    have d1 : p ∣ f * cf h (h.length - 1) - 1 := by
      refine Int.dvd_of_emod_eq_zero ?_
      have hf' : f * cf h (h.length - 1) % p = 1 := hf
      rw [Int.sub_emod, hf', Int.emod_eq_of_lt (show (0 : Int) ≤ 1 by omega) (show (1 : Int) < p by omega), Int.sub_self, Int.zero_emod]
    have d2 := Int.dvd_add d d1
    have hb := cf_row (mulC_row (p := p) (c := f) (xs := h) (by omega)).all (show 0 < p by omega) (h.length - 1)
    refine rem_eq (p := p) ?_ hb.1 hb.2 (by omega) (by omega)
    rwa [show cf (mulC p f h) (h.length - 1) - f * cf h (h.length - 1) + (f * cf h (h.length - 1) - 1) = cf (mulC p f h) (h.length - 1) - 1 by omega] at d2
  refine ⟨?_, e⟩
  have l := mulC_len p f h
  by_cases c : (mulC p f h).length = h.length
  · exact c
  · rw [cf_ge (by omega)] at e
    omega
theorem CmAt.done {p f : Int} {one two h0 h1 h2 l1 l2 : List Int} {L : Nat} (P : Pr p) (r1 : Row p one) (r2 : Row p two) (C : CmAt p one two L h0 h1 h2 [] l1 l2) (hf : h0 ≠ [] → f * h0.getD (h0.length - 1) 0 % p = 1) : CmRes p one two (mulC p f h0) (mulC p f h1) (mulC p f h2) := by
  have p2 := P.lo
  have hd := C.bk h0 (dvs_refl p h0) (dvs_empty p h0)
  have hup : Dvs p h0 (mulC p f h0) := ⟨[f], (mulC_cf p f h0).trans (Eq.of fun k => by
    rw [cm_cons]
    have : sh (cm [] (cf h0)) k = 0 := by cases k <;> rfl
    rw [this]
    omega)⟩
  have hdn : Dvs p (mulC p f h0) h0 := by
    by_cases c : h0 = []
    · rw [c]
      exact dvs_empty p _
    · have hf' := hf c
      generalize h0.getD (h0.length - 1) 0 = l at hf'
      have d1 : p ∣ f * l - 1 := by
        refine Int.dvd_of_emod_eq_zero ?_
        rw [Int.sub_emod, hf', Int.emod_eq_of_lt (show (0 : Int) ≤ 1 by omega) (show (1 : Int) < p by omega), Int.sub_self, Int.zero_emod]
      refine ⟨[l], fun k => ?_⟩
      have e : cm [l] (cf (mulC p f h0)) k = l * cf (mulC p f h0) k := by
        rw [cm_cons]
        have : sh (cm [] (cf (mulC p f h0))) k = 0 := by cases k <;> rfl
        rw [this]
        omega
      rw [e]
      have a : p ∣ l * (cf (mulC p f h0) k - f * cf h0 k) := Int.dvd_mul_of_dvd_right (mulC_cf p f h0 k)
      have b : p ∣ (f * l - 1) * cf h0 k := Int.dvd_mul_of_dvd_left d1
      rw [Int.mul_sub, ← Int.mul_assoc, Int.mul_comm l f] at a
      rw [Int.sub_mul, Int.one_mul] at b
      have := Int.dvd_neg.mpr (Int.dvd_add a b)
      generalize f * l * cf h0 k = A at *
      rwa [show -(l * cf (mulC p f h0) k - A + (A - cf h0 k)) = cf h0 k - l * cf (mulC p f h0) k by omega] at this
  have hnil : mulC p f h0 = [] ↔ h0 = [] := by
    constructor
    · intro e
      by_cases c : h0 = []
      · exact c
      · have := (mulC_last P C.rh0 c (hf c)).1
        rw [e] at this
        exact (List.length_eq_zero_iff.mp this.symm)
    · intro e
      rw [e]
      rfl
  refine ⟨mulC_row (by omega), mulC_row (by omega), mulC_row (by omega), ?_, ?_, fun hne => ?_, dvs_trans hdn hd.1, dvs_trans hdn hd.2, fun d a b => dvs_trans (dvs_lin a b C.eh) hup⟩
  · refine (mulC_cf p f h0).trans ((Eq.smul f C.eh).trans ?_)
    refine Eq.symm ((Eq.add (mulC_cm h1 one) (mulC_cm h2 two)).trans (Eq.of fun k => ?_))
    rw [Int.mul_add]
  · rw [hnil]
    constructor
    · intro e
      rw [e] at hd
      exact ⟨(dvs_nil (by omega) r1).mp hd.1, (dvs_nil (by omega) r2).mp hd.2⟩
    · rintro ⟨e1, e2⟩
      refine row_eq (by omega) C.rh0 (row_nil p) fun k => ?_
      have this : p ∣ cf h0 k - (cm h1 (cf one) k + cm h2 (cf two) k) := C.eh k
      have z : ∀ xs : List Int, cm xs (cf []) k = 0 := fun xs => (cm_congr xs (fun k => cf_nil k) k).trans (cm_zero_fn xs k)
      rw [e1, e2, z, z] at this
      rw [cf_nil]
      simpa using this
  · have hne' : h0 ≠ [] := fun e => hne (hnil.mpr e)
    have := mulC_last P C.rh0 hne' (hf hne')
    rw [this.1]
    exact this.2
end Mth
namespace Mth
end Mth
namespace Mth
def prd : List Int → Int
  | [] => 1
  | x :: r => x * prd r
theorem prd_erase : ∀ (ys : List Int) (x : Int), x ∈ ys → prd ys = x * prd (ys.erase x)
  | [], x, h => absurd h List.not_mem_nil
  | y :: r, x, h => by
    by_cases e : y = x
    · subst e
      rw [List.erase_cons_head]
      rfl
    · have hr : x ∈ r := by
        rcases List.mem_cons.mp h with q | q
        · exact absurd q.symm e
        · exact q
      rw [List.erase_cons_tail (by simpa using e)]
      show y * prd r = x * (y * prd (r.erase x))
      rw [prd_erase r x hr, ← Int.mul_assoc, ← Int.mul_assoc, Int.mul_comm y x]
theorem prd_same : ∀ (xs ys : List Int), xs.Nodup → ys.Nodup → (∀ x ∈ xs, x ∈ ys) → ys.length ≤ xs.length → prd xs = prd ys
  | [], ys, _, _, _, hl => by
    have : ys = [] := List.length_eq_zero_iff.mp (Nat.le_zero.mp hl)
    rw [this]
  | x :: r, ys, hx, hy, hs, hl => by
    obtain ⟨h1, h2⟩ := List.nodup_cons.mp hx
    have hm := hs x List.mem_cons_self
    rw [prd_erase ys x hm]
    show x * prd r = _
    rw [prd_same r (ys.erase x) h2 (hy.erase x) (fun z hz => (List.mem_erase_of_ne (fun e => h1 (by rw [← e]; exact hz))).mpr (hs z (List.mem_cons_of_mem _ hz)))
      (by rw [List.length_erase_of_mem hm]; simp at hl; omega)]
theorem prd_scale {p a : Int} : ∀ xs : List Int, p ∣ prd (xs.map fun x => a * x % p) - a ^ xs.length * prd xs
  | [] => by simp [prd]
  | x :: r => by
    have ih := prd_scale (p := p) (a := a) r
    show p ∣ (a * x % p) * prd (r.map fun x => a * x % p) - a ^ (r.length + 1) * (x * prd r)
    have e1 : p ∣ (a * x % p - a * x) * prd (r.map fun x => a * x % p) := Int.dvd_mul_of_dvd_left (emod_dvd p (a * x))
    have e2 : p ∣ (a * x) * (prd (r.map fun x => a * x % p) - a ^ r.length * prd r) := Int.dvd_mul_of_dvd_right ih
    have := Int.dvd_add e1 e2
    rw [Int.sub_mul, Int.mul_sub] at this
    have e3 : a * x * (a ^ r.length * prd r) = a ^ (r.length + 1) * (x * prd r) := by
      rw [Int.pow_succ, Int.mul_comm (a ^ r.length) a, Int.mul_assoc, Int.mul_assoc, ← Int.mul_assoc x, Int.mul_comm x (a ^ r.length), Int.mul_assoc (a ^ r.length) x]
    rw [e3] at this
    rwa [show (a * x % p) * prd (r.map fun x => a * x % p) - a * x * prd (r.map fun x => a * x % p) + (a * x * prd (r.map fun x => a * x % p) - a ^ (r.length + 1) * (x * prd r)) = (a * x % p) * prd (r.map fun x => a * x % p) - a ^ (r.length + 1) * (x * prd r) by omega] at this
theorem prd_not {p : Int} (P : Pr p) : ∀ xs : List Int, (∀ x ∈ xs, ¬ p ∣ x) → ¬ p ∣ prd xs
  | [], _, h => by
    have p2 := P.lo
    have := Int.le_of_dvd (show (0 : Int) < prd [] by simp [prd]) h
    simp [prd] at this
    omega
  | x :: r, hx, h => by
    rcases P.euclid (a := x) (b := prd r) h with q | q
    · exact hx x List.mem_cons_self q
    · exact prd_not P r (fun z hz => hx z (List.mem_cons_of_mem _ hz)) q
def ups (n : Nat) : List Int := (List.range n).map fun (k : Nat) => (k : Int) + 1
theorem ups_mem {n : Nat} {x : Int} : x ∈ ups n ↔ 1 ≤ x ∧ x ≤ (n : Int) := by
  unfold ups
  rw [List.mem_map]
  constructor
  · rintro ⟨k, hk, rfl⟩
    have := List.mem_range.mp hk
    omega
  · rintro ⟨h1, h2⟩
    exact ⟨(x - 1).toNat, List.mem_range.mpr (by omega), by omega⟩
theorem ups_nodup (n : Nat) : (ups n).Nodup := by
  unfold ups
  refine List.pairwise_map.mpr ?_
  exact List.Pairwise.imp (fun h e => h (by omega)) (List.nodup_range (n := n))
theorem fermat {p a : Int} (P : Pr p) (ha : ¬ p ∣ a) : p ∣ a ^ (p - 1).toNat - 1 := by
  have p2 := P.lo
  have hlen : (ups (p - 1).toNat).length = (p - 1).toNat := by simp [ups]
  have hnd : ∀ x ∈ ups (p - 1).toNat, ¬ p ∣ x := fun x hx h => by
    have := ups_mem.mp hx
    have := Int.le_of_dvd (by omega) h
    omega
  have himg : ∀ x ∈ ups (p - 1).toNat, a * x % p ∈ ups (p - 1).toNat := fun x hx => by
    refine ups_mem.mpr ?_
    have h0 := Int.emod_nonneg (a * x) (show p ≠ 0 by omega)
    have h1 := Int.emod_lt_of_pos (a * x) (show 0 < p by omega)
    have hn : a * x % p ≠ 0 := fun z => by
      rcases P.euclid (Int.dvd_of_emod_eq_zero z) with q | q
      · exact ha q
      · exact hnd x hx q
    omega
  have hinj : ((ups (p - 1).toNat).map fun x => a * x % p).Nodup := by
    refine List.pairwise_map.mpr ?_
    refine List.Pairwise.imp_of_mem ?_ (ups_nodup _)
    intro x y hx hy hne e
    have bx := ups_mem.mp hx
    have byy := ups_mem.mp hy
    have d : p ∣ a * x - a * y := Int.dvd_of_emod_eq_zero (Int.emod_eq_emod_iff_emod_sub_eq_zero.mp e)
    rw [← Int.mul_sub] at d
    rcases P.euclid d with q | q
    · exact ha q
    · exact hne (rem_eq q (by omega) (by omega) (by omega) (by omega))
  have hsame := prd_same _ (ups (p - 1).toNat) hinj (ups_nodup _) (fun z hz => by
    obtain ⟨x, hx, rfl⟩ := List.mem_map.mp hz
    exact himg x hx) (by rw [List.length_map]; exact Nat.le_refl _)
  have hs := prd_scale (p := p) (a := a) (ups (p - 1).toNat)
  rw [hsame, hlen] at hs
  have hn := prd_not P _ hnd
  generalize prd (ups (p - 1).toNat) = B at hs hn
  have d : p ∣ (a ^ (p - 1).toNat - 1) * B := by
    have := Int.dvd_neg.mpr hs
    rw [Int.sub_mul, Int.one_mul]
    rwa [show -(B - a ^ (p - 1).toNat * B) = a ^ (p - 1).toNat * B - B by omega] at this
  rcases P.euclid d with q | q
  · exact q
  · exact absurd q hn
end Mth
namespace Mth
def pl (xs : List Int) (k : Nat) : Nat → List Int
  | 0 => [1]
  | m + 1 => if m = k then pl xs k m else mulL (pl xs k m) [-(xs.getD m 0), 1]
end Mth
namespace Mth
end Mth
namespace Mth
def powL (b : List Int) : Nat → List Int
  | 0 => [1]
  | n + 1 => mulL (powL b n) b
theorem ev_powL (z : Int) (b : List Int) : ∀ n, ev z (powL b n) = ev z b ^ n
  | 0 => by simp [powL, ev]
  | n + 1 => by rw [powL, ev_mulL, ev_powL z b n, Int.pow_succ]
theorem mulL_assoc (x y z : List Int) (k : Nat) : cf (mulL (mulL x y) z) k = cf (mulL x (mulL y z)) k := by
  rw [cf_mulL, cf_mulL, cm_assoc]
  exact cm_congr x (fun i => (cf_mulL y z i).symm) k
theorem mulL_congr_left {x x' : List Int} (h : ∀ k, cf x k = cf x' k) (y : List Int) (k : Nat) : cf (mulL x y) k = cf (mulL x' y) k := by
  rw [cf_mulL, cf_mulL, cm_comm x y k, cm_comm x' y k]
  exact cm_congr y h k
theorem mulL_congr_right (x : List Int) {y y' : List Int} (h : ∀ k, cf y k = cf y' k) (k : Nat) : cf (mulL x y) k = cf (mulL x y') k := by
  rw [cf_mulL, cf_mulL]
  exact cm_congr x h k
theorem mulL_one (x : List Int) (k : Nat) : cf (mulL x [1]) k = cf x k := by rw [cf_mulL, cm_right_one]
theorem powL_add (b : List Int) (m : Nat) : ∀ n k, cf (powL b (m + n)) k = cf (mulL (powL b m) (powL b n)) k
  | 0, k => (mulL_one _ k).symm
  | n + 1, k => by
    show cf (mulL (powL b (m + n)) b) k = cf (mulL (powL b m) (mulL (powL b n) b)) k
    rw [← mulL_assoc]
    exact mulL_congr_left (powL_add b m n) b k
def Cg (p : Int) (m u v : List Int) : Prop := ∃ k : List Int, Mth.Eq p (cf u) (fun i => cm k (cf m) i + cf v i)
theorem Cg.of {p : Int} {m u v : List Int} (h : ∀ k, cf u k = cf v k) : Cg p m u v := ⟨[], Eq.of fun k => by rw [cm_nil, Int.zero_add, h]⟩
theorem Cg.eq {p : Int} {m u v : List Int} (h : Mth.Eq p (cf u) (cf v)) : Cg p m u v := ⟨[], h.trans (Eq.of fun k => by rw [cm_nil, Int.zero_add])⟩
theorem Cg.trans {p : Int} {m u v w : List Int} (a : Cg p m u v) (b : Cg p m v w) : Cg p m u w := by
  obtain ⟨k, e⟩ := a
  obtain ⟨l, f⟩ := b
  refine ⟨addL k l, e.trans ((Eq.add (Eq.refl p (cm k (cf m))) f).trans (Eq.of fun i => ?_))⟩
  rw [cm_addL]
  omega
theorem Cg.mul {p : Int} {m u v u' v' : List Int} (a : Cg p m u v) (b : Cg p m u' v') : Cg p m (mulL u u') (mulL v v') := by
  obtain ⟨k, e⟩ := a
  obtain ⟨l, f⟩ := b
  refine ⟨addL (mulL u' k) (mulL v l), ?_⟩
  have e1 : Mth.Eq p (cf (mulL u u')) (fun i => cm (mulL u' k) (cf m) i + cm v (cf u') i) :=
    (Eq.of fun i => by rw [cf_mulL, cm_comm u u' i]).trans ((Eq.cm e u').trans (Eq.of fun i => by rw [cm_add, cm_assoc, cm_comm u' v i]))
  have e2 : Mth.Eq p (cm v (cf u')) (fun i => cm (mulL v l) (cf m) i + cf (mulL v v') i) :=
    (Eq.cm f v).trans (Eq.of fun i => by rw [cm_add, cm_assoc, cf_mulL])
  refine e1.trans ((Eq.add (Eq.refl p (cm (mulL u' k) (cf m))) e2).trans (Eq.of fun i => ?_))
  rw [cm_addL]
  omega
theorem ev_cg {p a : Int} {m u v : List Int} (h : Cg p m u v) (hm : p ∣ ev a m) : p ∣ ev a u - ev a v := by
  obtain ⟨k, e⟩ := h
  have := ev_congr (p := p) (z := a) (xs := u) (ys := addL (mulL k m) v) (e.trans (Eq.of fun i => by rw [cf_addL, cf_mulL]))
  rw [ev_addL, ev_mulL] at this
  have d : p ∣ ev a k * ev a m := Int.dvd_mul_of_dvd_right hm
  have := Int.dvd_add this d
  rwa [show ev a u - (ev a k * ev a m + ev a v) + ev a k * ev a m = ev a u - ev a v by omega] at this
def zs (p : Int) : List Int := (List.range p.toNat).map fun (k : Nat) => (k : Int)
theorem zs_mem {p x : Int} : x ∈ zs p ↔ 0 ≤ x ∧ x < p := by
  unfold zs
  rw [List.mem_map]
  constructor
  · rintro ⟨k, hk, rfl⟩
    have := List.mem_range.mp hk
    omega
  · rintro ⟨h1, h2⟩
    exact ⟨x.toNat, List.mem_range.mpr (by omega), by omega⟩
theorem zs_nodup (p : Int) : (zs p).Nodup := by
  unfold zs
  refine List.pairwise_map.mpr ?_
  exact List.Pairwise.imp (fun h e => h (by omega)) (List.nodup_range (n := p.toNat))
theorem zs_len (p : Int) : (zs p).length = p.toNat := by simp [zs]
def rt (p : Int) (g : List Int) (a : Int) : Bool := decide (ev a g % p = 0)
theorem rt_iff {p a : Int} {g : List Int} : rt p g a = true ↔ p ∣ ev a g := by
  unfold rt
  rw [decide_eq_true_iff]
  exact ⟨Int.dvd_of_emod_eq_zero, Int.emod_eq_zero_of_dvd⟩
def rts (p : Int) (g : List Int) : List Int := (zs p).filter (rt p g)
theorem rts_mem {p a : Int} {g : List Int} : a ∈ rts p g ↔ (0 ≤ a ∧ a < p) ∧ p ∣ ev a g := by
  unfold rts
  rw [List.mem_filter, zs_mem, rt_iff]
theorem rts_nodup (p : Int) (g : List Int) : (rts p g).Nodup := List.Nodup.sublist List.filter_sublist (zs_nodup p)
theorem rts_le {p : Int} (P : Pr p) {g : List Int} (hg : Row p g) (hne : g ≠ []) : (rts p g).length + 1 ≤ g.length := by
  have h0 : 0 < g.length := List.length_pos_iff.mpr hne
  by_cases c : (rts p g).length + 1 ≤ g.length
  · exact c
  · exfalso
    have := few_roots P (rts p g) g (by omega) (apart (rts_nodup p g) fun z hz => (rts_mem.mp hz).1) (fun z hz => (rts_mem.mp hz).2) (g.length - 1)
    exact row_lead hg hne this
theorem cm_top (xs ms : List Int) (hx : xs ≠ []) (hm : ms ≠ []) : cm xs (cf ms) (xs.length - 1 + (ms.length - 1)) = cf xs (xs.length - 1) * cf ms (ms.length - 1) := by
  obtain ⟨d, a, rfl⟩ : ∃ d a, xs = d ++ [a] := ⟨xs.dropLast, xs.getLast hx, (List.dropLast_concat_getLast hx).symm⟩
  have hm0 : 0 < ms.length := List.length_pos_iff.mpr hm
  have hl : (d ++ [a]).length - 1 = d.length := by simp
  rw [hl, cm_snoc]
  have h2 : cm d (cf ms) (d.length + (ms.length - 1)) = 0 := by
    by_cases e : d = []
    · rw [e]; rfl
    · exact cm_vanish (m := ms.length) (fun k hk => cf_ge hk) d _ (by omega) e
  have h3 : cf (d ++ [a]) d.length = a := by
    unfold cf
    rw [List.getD_eq_getElem?_getD, List.getElem?_append_right (Nat.le_refl _), Nat.sub_self]
    rfl
  rw [h2, h3, shn, if_pos (by omega), show d.length + (ms.length - 1) - d.length = ms.length - 1 by omega, Int.zero_add]
theorem prod_len {p : Int} (P : Pr p) {g h k : List Int} (hg : Row p g) (hh : Row p h) (hk : Row p k) (h1 : h ≠ []) (k1 : k ≠ []) (e : Mth.Eq p (cf g) (cm h (cf k))) : g ≠ [] ∧ g.length + 1 = h.length + k.length := by
  have a0 : 0 < h.length := List.length_pos_iff.mpr h1
  have b0 : 0 < k.length := List.length_pos_iff.mpr k1
  have ht := e (h.length - 1 + (k.length - 1))
  rw [cm_top h k h1 k1] at ht
  have hn : ¬ p ∣ cf h (h.length - 1) * cf k (k.length - 1) := fun z => by
    rcases P.euclid z with q | q
    · exact row_lead hh h1 q
    · exact row_lead hk k1 q
  have hge : h.length - 1 + (k.length - 1) < g.length := by
    by_cases c : h.length - 1 + (k.length - 1) < g.length
    · exact c
    · exfalso
      rw [cf_ge (by omega), Int.zero_sub] at ht
      exact hn (Int.dvd_neg.mp ht)
  have hle : g.length ≤ h.length + k.length - 1 := row_short hg fun i hi => by
    have := e i
    rw [cm_vanish (m := k.length) (fun k hk => cf_ge hk) h i (by omega) h1, Int.sub_zero] at this
    exact this
  refine ⟨fun z => ?_, by omega⟩
  rw [z, List.length_nil] at hge
  omega
theorem ev_prod {p a : Int} {g h k : List Int} (e : Mth.Eq p (cf g) (cm h (cf k))) : p ∣ ev a g - ev a h * ev a k := by
  have := ev_congr (p := p) (z := a) (xs := g) (ys := mulL h k) (e.trans (Eq.of fun i => by rw [cf_mulL]))
  rwa [ev_mulL] at this
theorem root_prod {p a : Int} (P : Pr p) {g h k : List Int} (e : Mth.Eq p (cf g) (cm h (cf k))) : p ∣ ev a g ↔ p ∣ ev a h ∨ p ∣ ev a k := by
  have d := ev_prod (a := a) e
  constructor
  · intro z
    have := Int.dvd_sub z d
    rw [show ev a g - (ev a g - ev a h * ev a k) = ev a h * ev a k by omega] at this
    exact P.euclid this
  · intro z
    have d2 : p ∣ ev a h * ev a k := by
      rcases z with z | z
      · exact Int.dvd_mul_of_dvd_left z
      · exact Int.dvd_mul_of_dvd_right z
    have := Int.dvd_add d d2
    rwa [show ev a g - ev a h * ev a k + ev a h * ev a k = ev a g by omega] at this
theorem filter_or : ∀ (l : List Int) (f g h : Int → Bool), (∀ x ∈ l, f x = (g x || h x)) → (l.filter f).length + (l.filter fun x => g x && h x).length = (l.filter g).length + (l.filter h).length
  | [], f, g, h, _ => rfl
  | x :: r, f, g, h, e => by
    have ih := filter_or r f g h fun y hy => e y (List.mem_cons_of_mem _ hy)
    have ex := e x List.mem_cons_self
    simp only [List.filter_cons, ex]
    cases g x <;> cases h x <;> simp <;> omega
theorem filter_split : ∀ (l : List Int) (f g h : Int → Bool), (∀ x ∈ l, f x = (g x || h x)) → (∀ x ∈ l, ¬ (g x = true ∧ h x = true)) → (l.filter f).Perm (l.filter g ++ l.filter h)
  | [], f, g, h, _, _ => List.Perm.refl _
  | x :: r, f, g, h, e, d => by
    have ih := filter_split r f g h (fun y hy => e y (List.mem_cons_of_mem _ hy)) fun y hy => d y (List.mem_cons_of_mem _ hy)
    have ex := e x List.mem_cons_self
    have dx := d x List.mem_cons_self
    simp only [List.filter_cons, ex]
    cases hg : g x <;> cases hh : h x
    · simpa [hg, hh] using ih
    · simp only [Bool.or_true, if_true, Bool.false_eq_true, if_false]
      exact (List.Perm.cons x ih).trans List.perm_middle.symm
    · simp only [Bool.true_or, if_true, Bool.false_eq_true, if_false, List.cons_append]
      exact List.Perm.cons x ih
    · exact absurd ⟨hg, hh⟩ dx
structure Full (p : Int) (g : List Int) : Prop where
  row : Row p g
  ne : g ≠ []
  last : g.getD (g.length - 1) 0 = 1
  all : (rts p g).length + 1 = g.length
theorem Full.parts {p : Int} (P : Pr p) {g h k : List Int} (F : Full p g) (hh : Row p h) (hk : Row p k) (hl : h.getD (h.length - 1) 0 = 1) (h1 : h ≠ []) (k1 : k ≠ []) (e : Mth.Eq p (cf g) (cm k (cf h))) :
    Full p h ∧ Full p k ∧ (rts p g).Perm (rts p h ++ rts p k) ∧ ∀ a, ¬ (a ∈ rts p h ∧ a ∈ rts p k) := by
  have p2 := P.lo
  obtain ⟨_, len⟩ := prod_len P F.row hk hh k1 h1 e
  have r1 := rts_le P hh h1
  have r2 := rts_le P hk k1
  have hall := F.all
  have hor : ∀ x ∈ zs p, rt p g x = (rt p h x || rt p k x) := fun x _ => by
    have q := root_prod (a := x) P e
    rw [← rt_iff, ← rt_iff, ← rt_iff] at q
    rw [Bool.eq_iff_iff, Bool.or_eq_true, q]
    exact ⟨fun z => z.elim .inr .inl, fun z => z.elim .inr .inl⟩
  have cnt := filter_or (zs p) (rt p g) (rt p h) (rt p k) hor
  have cnt' : (rts p g).length + ((zs p).filter fun x => rt p h x && rt p k x).length = (rts p h).length + (rts p k).length := cnt
  have h0 : ((zs p).filter fun x => rt p h x && rt p k x).length = 0 := by omega
  have dis : ∀ x ∈ zs p, ¬ (rt p h x = true ∧ rt p k x = true) := fun x hx z => by
    have : x ∈ (zs p).filter fun x => rt p h x && rt p k x := List.mem_filter.mpr ⟨hx, by rw [z.1, z.2]; rfl⟩
    rw [List.length_eq_zero_iff.mp h0] at this
    cases this
  have kl : k.getD (k.length - 1) 0 = 1 := by
    have ht := e (k.length - 1 + (h.length - 1))
    rw [cm_top k h k1 h1] at ht
    have a0 : 0 < h.length := List.length_pos_iff.mpr h1
    have b0 : 0 < k.length := List.length_pos_iff.mpr k1
    have e1 : cf h (h.length - 1) = 1 := hl
    have e2 : cf g (k.length - 1 + (h.length - 1)) = 1 := by
      rw [show k.length - 1 + (h.length - 1) = g.length - 1 by omega]
      exact F.last
    rw [e1, e2, Int.mul_one] at ht
    have b := row_top hk k1
    exact (rem_eq ht (by omega) (by omega) (show 0 ≤ cf k (k.length - 1) from Int.le_of_lt b.1) b.2).symm
  refine ⟨⟨hh, h1, hl, by omega⟩, ⟨hk, k1, kl, by omega⟩, filter_split _ _ _ _ hor dis, fun a z => ?_⟩
  have m1 := rts_mem.mp z.1
  have m2 := rts_mem.mp z.2
  exact dis a (zs_mem.mpr m1.1) ⟨rt_iff.mpr m1.2, rt_iff.mpr m2.2⟩
theorem cf_xn : ∀ n k, cf (powL [0, 1] n) k = if k = n then 1 else 0
  | 0, k => by
    cases k with
    | zero => rfl
    | succ k => rw [if_neg (by omega)]; show cf [1] (k + 1) = 0; rw [cf_succ, cf_nil]
  | n + 1, k => by
    show cf (mulL (powL [0, 1] n) [0, 1]) k = _
    rw [cf_mulL, cm_cf_cons, Int.zero_mul, Int.zero_add]
    cases k with
    | zero => rw [if_neg (by omega)]; rfl
    | succ k =>
      show cm (powL [0, 1] n) (cf [1]) k = _
      rw [cm_right_one, cf_xn n k]
      by_cases c : k = n
      · rw [if_pos c, if_pos (by omega)]
      · rw [if_neg c, if_neg (by omega)]
def allX (p : Int) : List Int := addL (powL [0, 1] p.toNat) (smulL (-1) [0, 1])
theorem cf_allX {p : Int} (hp : 2 ≤ p) (k : Nat) : cf (allX p) k = (if k = p.toNat then 1 else 0) - (if k = 1 then 1 else 0) := by
  unfold allX
  rw [cf_addL, cf_smulL, cf_xn]
  have e : cf [0, 1] k = if k = 1 then 1 else 0 := by
    cases k with
    | zero => rfl
    | succ k =>
      cases k with
      | zero => rfl
      | succ k => rw [cf_succ, cf_succ, cf_nil, if_neg (by omega)]
  rw [e]
  omega
theorem ev_x (a : Int) : ev a [0, 1] = a := by simp [ev]
theorem ev_allX {p : Int} (P : Pr p) (a : Int) : p ∣ ev a (allX p) := by
  have p2 := P.lo
  unfold allX
  rw [ev_addL, ev_smulL, ev_powL, ev_x]
  by_cases c : p ∣ a
  · have e : a ^ p.toNat = a ^ (p.toNat - 1) * a := by rw [← Int.pow_succ]; congr 1; omega
    rw [e]
    exact Int.dvd_add (Int.dvd_mul_of_dvd_right c) (Int.dvd_mul_of_dvd_right c)
  · have f := fermat P c
    have e : a ^ p.toNat = a ^ (p - 1).toNat * a := by rw [← Int.pow_succ]; congr 1; omega
    rw [e]
    have := Int.dvd_mul_of_dvd_left (c := a) f
    rw [Int.sub_mul, Int.one_mul] at this
    rwa [show a ^ (p - 1).toNat * a + -1 * a = a ^ (p - 1).toNat * a - a by omega]
theorem red_row {p : Int} (hp : 0 < p) (q : List Int) : Mth.Eq p (cf q) (cf (trim (q.map fun x => x % p))) := fun k => by
  rw [cf_trim, cf_map0 (fun x => x % p) (by simp)]
  have := Int.dvd_neg.mpr (emod_dvd p (cf q k))
  rwa [Int.neg_sub] at this
theorem full_of {p : Int} (P : Pr p) {g : List Int} (hg : Row p g) (hne : g ≠ []) (hl : g.getD (g.length - 1) 0 = 1) (hd : Dvs p g (allX p)) : Full p g := by
  have p2 := P.lo
  obtain ⟨q0, e0⟩ := hd
  have hred := red_row (p := p) (by omega) q0
  have e : Mth.Eq p (cf (allX p)) (cm (trim (q0.map fun x => x % p)) (cf g)) := e0.trans (Eq.cmL hred g)
  have hq : Row p (trim (q0.map fun x => x % p)) := trim_row fun x hx => by
    obtain ⟨y, _, rfl⟩ := List.mem_map.mp hx
    exact ⟨Int.emod_nonneg _ (by omega), Int.emod_lt_of_pos _ (by omega)⟩
  generalize trim (q0.map fun x => x % p) = q at e hq
  have g0 : 0 < g.length := List.length_pos_iff.mpr hne
  have htop : cf (allX p) p.toNat = 1 := by rw [cf_allX p2, if_pos rfl, if_neg (by omega)]; rfl
  have hqne : q ≠ [] := fun z => by
    have := e p.toNat
    rw [z, cm_nil, htop] at this
    have := Int.le_of_dvd (by omega) this
    omega
  have q1 : 0 < q.length := List.length_pos_iff.mpr hqne
  have hdeg : q.length - 1 + (g.length - 1) ≤ p.toNat := by
    by_cases c : q.length - 1 + (g.length - 1) ≤ p.toNat
    · exact c
    · exfalso
      have := e (q.length - 1 + (g.length - 1))
      rw [cm_top q g hqne hne, cf_allX p2, if_neg (by omega), if_neg (by omega)] at this
      have h' : p ∣ cf q (q.length - 1) * cf g (g.length - 1) := by
        have := Int.dvd_neg.mpr this
        rwa [show -((0 : Int) - 0 - cf q (q.length - 1) * cf g (g.length - 1)) = cf q (q.length - 1) * cf g (g.length - 1) by omega] at this
      rcases P.euclid h' with z | z
      · exact row_lead hq hqne z
      · exact row_lead hg hne z
  refine ⟨hg, hne, hl, ?_⟩
  have hle := rts_le P hg hne
  by_cases c : (rts p g).length + 1 = g.length
  · exact c
  · exfalso
    have cnt : ((zs p).filter fun x => !rt p g x).length + (rts p g).length = p.toNat := by
      have h1 := filter_or (zs p) (fun _ => true) (fun x => !rt p g x) (rt p g) (fun x _ => by cases rt p g x <;> rfl)
      have h2 : ((zs p).filter fun x => !rt p g x && rt p g x).length = 0 := by
        rw [List.length_eq_zero_iff, List.filter_eq_nil_iff]
        intro x _
        cases rt p g x <;> simp
      have h3 : ((zs p).filter fun _ => true).length = p.toNat := by
        rw [List.filter_eq_self.mpr (fun _ _ => rfl), zs_len]
      rw [h2, h3] at h1
      have h1' : p.toNat + 0 = ((zs p).filter fun x => !rt p g x).length + (rts p g).length := h1
      omega
    have z := few_roots P ((zs p).filter fun x => !rt p g x) q (by omega) (apart (List.Nodup.sublist List.filter_sublist (zs_nodup p)) fun x hx => zs_mem.mp (List.mem_filter.mp hx).1) (fun b hb => by
      obtain ⟨_, hb2⟩ := List.mem_filter.mp hb
      have nb : ¬ p ∣ ev b g := fun y => by
        rw [rt_iff.mpr y] at hb2
        cases hb2
      rcases (root_prod (a := b) P e).mp (ev_allX P b) with y | y
      · exact y
      · exact absurd y nb) (q.length - 1)
    exact row_lead hq hqne z
end Mth
namespace Mth
def SS (p z : Int) : Prop := p ∣ z ^ (p / 2).toNat - 1
theorem pow_dvd {p x y : Int} (h : p ∣ x - y) : ∀ n : Nat, p ∣ x ^ n - y ^ n
  | 0 => by simp
  | n + 1 => by
    rw [Int.pow_succ, Int.pow_succ]
    have a : p ∣ (x ^ n - y ^ n) * x := Int.dvd_mul_of_dvd_left (pow_dvd h n)
    have b : p ∣ y ^ n * (x - y) := Int.dvd_mul_of_dvd_right h
    rw [Int.sub_mul] at a
    rw [Int.mul_sub] at b
    have := Int.dvd_add a b
    rwa [show x ^ n * x - y ^ n * x + (y ^ n * x - y ^ n * y) = x ^ n * x - y ^ n * y by omega] at this
theorem SS.congr {p x y : Int} (h : p ∣ x - y) : SS p x ↔ SS p y := by
  have a := pow_dvd h (p / 2).toNat
  unfold SS
  constructor
  · intro z
    have := Int.dvd_sub z a
    rwa [show x ^ (p / 2).toNat - 1 - (x ^ (p / 2).toNat - y ^ (p / 2).toNat) = y ^ (p / 2).toNat - 1 by omega] at this
  · intro z
    have := Int.dvd_add a z
    rwa [show x ^ (p / 2).toNat - y ^ (p / 2).toNat + (y ^ (p / 2).toNat - 1) = x ^ (p / 2).toNat - 1 by omega] at this
theorem parted {p a b : Int} (P : Pr p) (ha : 0 ≤ a ∧ a < p) (hb : 0 ≤ b ∧ b < p) (hne : a ≠ b) (h : ∀ t : Nat, (t : Int) < p → (SS p (a + (t : Int)) ↔ SS p (b + (t : Int)))) : False := by
  have p2 := P.lo
  have step : ∀ z, SS p z → SS p (z + (b - a)) := fun z hz => by
    have t0 := Int.emod_nonneg (z - a) (show p ≠ 0 by omega)
    have t1 := Int.emod_lt_of_pos (z - a) (show 0 < p by omega)
    have hd := emod_dvd p (z - a)
    have e : (((z - a) % p).toNat : Int) = (z - a) % p := by omega
    have q := h ((z - a) % p).toNat (by omega)
    rw [e] at q
    have c1 : p ∣ a + (z - a) % p - z := by rwa [show a + (z - a) % p - z = (z - a) % p - (z - a) by omega]
    have c2 : p ∣ b + (z - a) % p - (z + (b - a)) := by rwa [show b + (z - a) % p - (z + (b - a)) = (z - a) % p - (z - a) by omega]
    exact (SS.congr c2).mp (q.mp ((SS.congr c1).mpr hz))
  have all : ∀ k : Nat, SS p (1 + (k : Int) * (b - a)) := fun k => by
    induction k with
    | zero =>
      unfold SS
      rw [show (1 + ((0 : Nat) : Int) * (b - a)) = 1 by simp, Int.one_pow, Int.sub_self]
      exact Int.dvd_zero p
    | succ k ih =>
      have := step _ ih
      rwa [show 1 + (k : Int) * (b - a) + (b - a) = 1 + ((k + 1 : Nat) : Int) * (b - a) by
        push_cast
        rw [Int.add_mul, Int.one_mul]
        omega] at this
  have hnd : ¬ p ∣ b - a := fun z => hne (rem_eq z hb.1 hb.2 ha.1 ha.2).symm
  have w0 := Int.emod_nonneg (b - a) (show p ≠ 0 by omega)
  have w1 := Int.emod_lt_of_pos (b - a) (show 0 < p by omega)
  have wn : (b - a) % p ≠ 0 := fun z => hnd (Int.dvd_of_emod_eq_zero z)
  obtain ⟨f, f1, f2, hf⟩ := inv_ex P (show 1 ≤ (b - a) % p by omega) w1
  have d := inv_dvd (by omega) hf
  have k := all (p - f).toNat
  have ek : ((p - f).toNat : Int) = p - f := by omega
  rw [ek] at k
  have c : p ∣ 1 + (p - f) * (b - a) - 0 := by
    have e1 : p ∣ p * (b - a) := Int.dvd_mul_right p _
    have := Int.dvd_sub e1 d
    rw [Int.sub_mul]
    rwa [show p * (b - a) - (f * (b - a) - 1) = 1 + (p * (b - a) - f * (b - a)) - 0 by omega] at this
  have z := (SS.congr c).mp k
  unfold SS at z
  have e : (p / 2).toNat = ((p / 2).toNat - 1) + 1 := by omega
  rw [e, Int.pow_succ, Int.mul_zero] at z
  have := Int.dvd_neg.mpr z
  have := Int.le_of_dvd (by omega) this
  omega
theorem ev_one (a : Int) : ev a [1] = 1 := by simp [ev]
theorem subR_ev {p a : Int} (x y : List Int) : p ∣ ev a (subR p x y) - (ev a x - ev a y) := by
  have := ev_congr (p := p) (z := a) (xs := subR p x y) (ys := addL x (smulL (-1) y)) ((subR_cf p x y).trans (Eq.of fun k => by
    show cf x k - cf y k = _
    rw [cf_addL, cf_smulL]
    omega))
  rw [ev_addL, ev_smulL] at this
  rwa [show ev a x + -1 * ev a y = ev a x - ev a y by omega] at this
theorem dvs_ev {p a : Int} {h x : List Int} (d : Dvs p h x) (hr : p ∣ ev a h) : p ∣ ev a x := by
  obtain ⟨q, e⟩ := d
  have := ev_prod (a := a) e
  have d2 : p ∣ ev a q * ev a h := Int.dvd_mul_of_dvd_right hr
  have := Int.dvd_add this d2
  rwa [show ev a x - ev a q * ev a h + ev a q * ev a h = ev a x by omega] at this
theorem res_ev {p a : Int} {one two g u v : List Int} (C : CmRes p one two g u v) (h1 : p ∣ ev a one) (h2 : p ∣ ev a two) : p ∣ ev a g := by
  have := ev_congr (p := p) (z := a) (xs := g) (ys := addL (mulL u one) (mulL v two)) (C.eq.trans (Eq.of fun k => by rw [cf_addL, cf_mulL, cf_mulL]))
  rw [ev_addL, ev_mulL, ev_mulL] at this
  have d : p ∣ ev a u * ev a one + ev a v * ev a two := Int.dvd_add (Int.dvd_mul_of_dvd_right h1) (Int.dvd_mul_of_dvd_right h2)
  have := Int.dvd_add this d
  rwa [show ev a g - (ev a u * ev a one + ev a v * ev a two) + (ev a u * ev a one + ev a v * ev a two) = ev a g by omega] at this
theorem once {p : Int} (P : Pr p) {row r g u v : List Int} (hne : row ≠ []) (hc : Cg p row (powL [0, 1] p.toNat) r) (C : CmRes p row (subR p r [0, 1]) g u v) : Full p g ∧ ∀ a, p ∣ ev a g ↔ p ∣ ev a row := by
  have p2 := P.lo
  have gne : g ≠ [] := fun e => hne (C.nil.mp e).1
  refine ⟨full_of P C.rg gne (C.last gne) ?_, fun a => ⟨fun h => dvs_ev C.d1 h, fun h => res_ev C h ?_⟩⟩
  · obtain ⟨k, e⟩ := hc
    refine dvs_lin C.d1 C.d2 (u := k) (v := [1]) ?_
    have hs := subR_cf p r [0, 1]
    intro i
    have a := e i
    have b := hs i
    show p ∣ cf (allX p) i - (cm k (cf row) i + cm [1] (cf (subR p r [0, 1])) i)
    rw [cm_one]
    unfold allX
    rw [cf_addL, cf_smulL]
    have b' : p ∣ cf (subR p r [0, 1]) i - (cf r i - cf [0, 1] i) := b
    have a' : p ∣ cf (powL [0, 1] p.toNat) i - (cm k (cf row) i + cf r i) := a
    have := Int.dvd_sub a' b'
    rwa [show cf (powL [0, 1] p.toNat) i - (cm k (cf row) i + cf r i) - (cf (subR p r [0, 1]) i - (cf r i - cf [0, 1] i)) = cf (powL [0, 1] p.toNat) i + -1 * cf [0, 1] i - (cm k (cf row) i + cf (subR p r [0, 1]) i) by omega] at this
  · have a1 := ev_cg (a := a) hc h
    rw [ev_powL, ev_x] at a1
    have a2 := subR_ev (p := p) (a := a) r [0, 1]
    rw [ev_x] at a2
    have a3 := ev_allX P a
    unfold allX at a3
    rw [ev_addL, ev_smulL, ev_powL, ev_x] at a3
    have := Int.dvd_add a2 (Int.dvd_sub a3 a1)
    rwa [show ev a (subR p r [0, 1]) - (ev a r - a) + (a ^ p.toNat + -1 * a - (a ^ p.toNat - ev a r)) = ev a (subR p r [0, 1]) by omega] at this
theorem halves {p : Int} (P : Pr p) {g r h u v q : List Int} {s : Nat} (F : Full p g) (hc : Cg p g (powL [(s : Int), 1] (p / 2).toNat) r) (C : CmRes p g (subR p r [1]) h u v) (hq : Row p q) (qne : q ≠ []) (e : Mth.Eq p (cf g) (cm q (cf h))) :
    Full p h ∧ Full p q ∧ (rts p g).Perm (rts p h ++ rts p q) ∧ (∀ a ∈ rts p h, a ∈ rts p g ∧ SS p (a + (s : Int))) ∧ ∀ a ∈ rts p q, a ∈ rts p g ∧ ¬ SS p (a + (s : Int)) := by
  have p2 := P.lo
  have hne : h ≠ [] := fun z => F.ne (C.nil.mp z).1
  obtain ⟨Fh, Fq, perm, dis⟩ := F.parts P C.rg hq (C.last hne) hne qne e
  have key : ∀ a, p ∣ ev a g → (p ∣ ev a (subR p r [1]) ↔ SS p (a + (s : Int))) := fun a ha => by
    have a1 := ev_cg (a := a) hc ha
    rw [ev_powL, ev_lin, Int.add_comm (s : Int) a] at a1
    have a2 := subR_ev (p := p) (a := a) r [1]
    rw [ev_one] at a2
    unfold SS
    constructor
    · intro z
      have := Int.dvd_add a1 (Int.dvd_sub z a2)
      rwa [show (a + (s : Int)) ^ (p / 2).toNat - ev a r + (ev a (subR p r [1]) - (ev a (subR p r [1]) - (ev a r - 1))) = (a + (s : Int)) ^ (p / 2).toNat - 1 by omega] at this
    · intro z
      have := Int.dvd_add a2 (Int.dvd_sub z a1)
      rwa [show ev a (subR p r [1]) - (ev a r - 1) + ((a + (s : Int)) ^ (p / 2).toNat - 1 - ((a + (s : Int)) ^ (p / 2).toNat - ev a r)) = ev a (subR p r [1]) by omega] at this
  refine ⟨Fh, Fq, perm, fun a ha => ?_, fun a ha => ?_⟩
  · have m := rts_mem.mp ha
    have hg : p ∣ ev a g := dvs_ev C.d1 m.2
    exact ⟨rts_mem.mpr ⟨m.1, hg⟩, (key a hg).mp (dvs_ev C.d2 m.2)⟩
  · have m := rts_mem.mp ha
    have hg : p ∣ ev a g := (root_prod (a := a) P e).mpr (.inl m.2)
    refine ⟨rts_mem.mpr ⟨m.1, hg⟩, fun z => dis a ⟨rts_mem.mpr ⟨m.1, res_ev C hg ((key a hg).mpr z)⟩, ha⟩⟩
theorem full_one {p : Int} {g : List Int} (F : Full p g) (h : g.length ≤ 1) : rts p g = [] := List.length_eq_zero_iff.mp (by have := F.all; omega)
theorem full_two {p : Int} (P : Pr p) {g : List Int} (F : Full p g) (h : g.length = 2) : rts p g = [-(g.getD 0 0) % p] := by
  have p2 := P.lo
  have hall := F.all
  have hl := F.last
  obtain ⟨c, d, rfl⟩ : ∃ c d, g = [c, d] := by
    match g, h with
    | [c, d], _ => exact ⟨c, d, rfl⟩
  have ed : d = 1 := hl
  subst ed
  have hm : -c % p ∈ rts p [c, 1] := by
    refine rts_mem.mpr ⟨⟨Int.emod_nonneg _ (by omega), Int.emod_lt_of_pos _ (by omega)⟩, ?_⟩
    rw [ev_lin]
    have := emod_dvd p (-c)
    rwa [show -c % p - -c = c + -c % p by omega] at this
  have h1 : (rts p [c, 1]).length = 1 := by simpa using hall
  obtain ⟨x, hx⟩ : ∃ x, rts p [c, 1] = [x] := by
    match hh : rts p [c, 1], h1 with
    | [x], _ => exact ⟨x, rfl⟩
  rw [hx] at hm ⊢
  have : -c % p = x := by simpa using hm
  show [x] = [-c % p]
  rw [this]
theorem len_of_count : ∀ (xs ys : List Int), (∀ a, xs.count a ≤ ys.count a) → xs.length ≤ ys.length
  | [], ys, _ => Nat.zero_le _
  | x :: r, ys, h => by
    have hx := h x
    rw [List.count_cons_self] at hx
    have hm : x ∈ ys := List.count_pos_iff.mp (by omega)
    have ih := len_of_count r (ys.erase x) fun a => by
      have ha := h a
      by_cases e : a = x
      · rw [e, List.count_erase_self]
        omega
      · rw [List.count_erase_of_ne e]
        rw [List.count_cons_of_ne (Ne.symm e)] at ha
        exact ha
    rw [List.length_erase_of_mem hm] at ih
    have : 0 < ys.length := List.length_pos_of_mem hm
    rw [List.length_cons]
    omega
structure PcOk (p : Int) (s : Nat) (g : List Int) : Prop where
  full : Full p g
  same : ∀ a ∈ rts p g, ∀ b ∈ rts p g, ∀ t : Nat, t < s → (SS p (a + (t : Int)) ↔ SS p (b + (t : Int)))
  long : 0 < s → 2 < g.length
theorem PcOk.low {p : Int} (P : Pr p) {s : Nat} {g : List Int} (h : PcOk p s g) : (s : Int) < p := by
  have p2 := P.lo
  by_cases c : (s : Int) < p
  · exact c
  · exfalso
    have hl := h.long (by omega)
    have hall := h.full.all
    have hn := rts_nodup p g
    match hh : rts p g, hall, hn with
    | [], e, _ => simp at e; omega
    | [x], e, _ => simp at e; omega
    | a :: b :: r, _, nd =>
      have hab : a ≠ b := fun e => by
        have := (List.nodup_cons.mp nd).1
        exact this (by rw [e]; exact List.mem_cons_self)
      have ma : a ∈ rts p g := by rw [hh]; exact List.mem_cons_self
      have mb : b ∈ rts p g := by rw [hh]; exact List.mem_cons_of_mem _ List.mem_cons_self
      exact parted P (rts_mem.mp ma).1 (rts_mem.mp mb).1 hab fun t ht => h.same a ma b mb t (by omega)
theorem PcOk.half {p : Int} {s : Nat} {g h : List Int} (hg : PcOk p s g) (F : Full p h) (hl : 2 < h.length) (b : Prop) (hs : ∀ a ∈ rts p h, a ∈ rts p g ∧ (SS p (a + (s : Int)) ↔ b)) : PcOk p (s + 1) h where
  full := F
  same := fun x hx y hy t ht => by
    by_cases c : t < s
    · exact hg.same x (hs x hx).1 y (hs y hy).1 t c
    · have : t = s := by omega
      rw [this, (hs x hx).2, (hs y hy).2]
  long := fun _ => hl
def fl (p : Int) (gs : List (List Int)) : List Int := gs.flatMap (rts p)
theorem fl_len {p : Int} : ∀ gs : List (List Int), (∀ g ∈ gs, Full p g ∧ 2 < g.length) → gs.length ≤ (fl p gs).length
  | [], _ => Nat.zero_le _
  | g :: r, h => by
    have ih := fl_len (p := p) r fun x hx => h x (List.mem_cons_of_mem _ hx)
    have hg := h g List.mem_cons_self
    have := hg.1.all
    unfold fl at ih ⊢
    rw [List.flatMap_cons, List.length_append, List.length_cons]
    omega
theorem strict {ms : List Int} (h1 : ms.Pairwise (· ≤ ·)) (h2 : ms.Nodup) : ms.Pairwise (· < ·) :=
  List.Pairwise.imp (fun h => by have := h.1; have := h.2; omega) (List.Pairwise.and h1 h2)
end Mth
namespace Prf
open PySem L2 Mth
def top (i : Nat) : Stmt := PySem.Challenge.pw_primecloth_k14_refused.main.body.getD i (.Pass ⟨0, 0, 0, 0⟩)
structure Txt (K : PySem.W.Frag) (mg : Str → Option Value) : Prop where
  len : mg "len" = none
  range : mg "range" = none
  isinstance : mg "isinstance" = none
  int : mg "int" = none
  bool : mg "bool" = none
  list : mg "list" = none
  tuple : mg "tuple" = none
  str : mg "str" = none
  enumerate : mg "enumerate" = none
  reversed : mg "reversed" = none
  max : mg "max" = none
  min : mg "min" = none
  set : mg "set" = none
  zip : mg "zip" = none
  sorted : mg "sorted" = none
  ValueError : mg "ValueError" = none
  g_LARGEST : ∃ t, mg "LARGEST" = some (.int 1000000 t)
abbrev v_LARGEST : V := .int 1000000
section
variable {P : Program} {w : World} {K : PySem.W.Frag} {mg : Str → Option Value} {base : Heap}
theorem at_some {ns : List Int} {k : Int} (h0 : 0 ≤ k) (h : k < (ns.length : Int)) : atI (ns.map V.int) k = some (.int (ns.getD k.toNat 0)) := by
  have hk : k.toNat < ns.length := by omega
  have ek : k = ((k.toNat : Nat) : Int) := by omega
  have q : atI (ns.map V.int) ((k.toNat : Nat) : Int) = some (.int ns[k.toNat]) := atI_nat (by rw [List.getElem?_map, List.getElem?_eq_getElem hk] <;> rfl)
  rw [← ek] at q
  rw [q, List.getD_eq_getElem?_getD, List.getElem?_eq_getElem hk]
  rfl
theorem cut_take (ns : List Int) (k : Nat) : cutV (ns.map V.int) none (some (k : Int)) = (ns.take k).map V.int := by
  unfold cutV
  rw [HT.sIx_none, HT.sIx_nat, List.drop_zero, List.length_map, Nat.sub_zero, ← List.map_take]
  congr 1
  rw [List.take_eq_take_iff]
  omega
theorem iteB {A B : Prop} {b : Bool} (hb : b = false) (h : B) : if b = true then A else B := by
  subst hb
  exact iteF h
theorem rep_zero (k : Nat) : (List.replicate k [V.int 0]).flatten = (List.replicate k (0 : Int)).map V.int := by
  induction k with
  | zero => rfl
  | succ k ih => rw [List.replicate_succ, List.flatten_cons, ih, List.replicate_succ]; rfl
abbrev s_is_prime : Stmt := top 12
theorem sc_is_prime : FnScope ["number", "divisor"] ["number"] (defScope s_is_prime) := ⟨rfl, rfl, rfl, by decide +kernel, rfl, by decide +kernel, by decide +kernel⟩
def spIsPrime : Sp := fun vs H Q _ => ∃ n : Int, vs = [.int n] ∧ ∀ b : Bool, (b = true ↔ Pr n) → Q (.bl b) H
theorem ok_is_prime {n : Nat} {f : Addr} {fd : FuncData} (F : Fun K "is_prime" "is_prime" s_is_prime f fd) (T : Txt K mg) : FnOk P w K mg base CX0 (n + 1) f fd ["number"] spIsPrime := by
  refine F.ok sc_is_prime (fun vs H Q E h => ?_) (fun cdv A outer s H vs Q E hr h => ?_)
  · obtain ⟨n, rfl, _⟩ := h
    rfl
  obtain ⟨n, rfl, q⟩ := h
  obtain ⟨tL, h_LARGEST⟩ := T.g_LARGEST
  refine ⟨_, (pss_cons (ps_if (PW.pt (pw_or (pt_cmpR op_lt (pv 0) pe_int (nomark _)) (pw_or1 (pt_cmpR op_gt (pv 0) (pe_glob (v := v_LARGEST) rfl h_LARGEST ⟨_, rfl⟩) (nomark _))))) (pss_one (ps_ret pe_bl)) pss_nil)
    (pss_cons (ps_set (i := 1) sc_is_prime.nd rfl (Or.inl rfl) pe_int)
    (pss_cons (ps_while PassesOwn.never (pt_cmpR op_le (pe_op op_mul (pv 1) (pv 1)) (pv 0) (nomark _)) (pss_cons (ps_if (pt_cmpR op_eqI (pe_op op_mod (pv 0) (pv 1)) pe_int (nomark _)) (pss_one (ps_ret pe_bl)) pss_nil)
    (pss_one (ps_aug (i := 1) sc_is_prime.nd rfl (Or.inl rfl) pe_int ip_add))))
    (pss_one (ps_ret pe_bl))))), ?_⟩
  refine ⟨_, rfl, _, _, rfl, rfl, _, rfl, ?_⟩
  refine ite2 (fun c => ?_) (fun c => ?_)
  · refine iteT ?_
    have c' : n < 2 := of_decide_eq_true c
    exact q false ⟨fun z => (nomatch z), fun z => by have := z.lo; omega⟩
  have c' : ¬ n < 2 := of_decide_eq_false (Bool.eq_false_iff.mpr c)
  refine ⟨_, rfl, _, _, rfl, rfl, _, rfl, ?_⟩
  refine ite2 (fun d => ?_) (fun d => ?_)
  · have d' : 1000000 < n := of_decide_eq_true d
    exact q false ⟨fun z => (nomatch z), fun z => by have := z.hi; omega⟩
  have d' : ¬ 1000000 < n := of_decide_eq_false (Bool.eq_false_iff.mpr d)
  refine while_on (fun σ H' => H' = H ∧ ∃ k : Int, σ = [some (.int n), some (.int k)] ∧ 2 ≤ k ∧ k ≤ 1001 ∧ ∀ e, 2 ≤ e → e < k → n % e ≠ 0) (fun σ _ => match σ with | [_, some (.int k)] => (1001 - k).toNat | _ => 0) ⟨rfl, 2, rfl, by omega, by omega, fun e h1 h2 => by omega⟩ ?_
  rintro σ H' ⟨rfl, k, rfl, k2, k3, hk⟩
  refine ⟨_, rfl, _, rfl, _, _, rfl, rfl, .inl ⟨by omega, by omega⟩, _, rfl, _, _, rfl, rfl, _, rfl, ?_⟩
  refine ite2 (fun c1 => ?_) (fun c1 => ?_)
  · have c1' : k * k ≤ n := of_decide_eq_true c1
    refine ⟨_, wn_ok, ?_⟩
    refine ⟨_, rfl, _, rfl, _, _, rfl, rfl, (show 0 < k by omega), _, _, rfl, rfl, _, rfl, ?_⟩
    refine ite2 (fun c2 => ?_) (fun c2 => ?_)
    · have c2' : n % k = 0 := of_decide_eq_true c2
      exact q false ⟨fun z => (nomatch z), fun z => absurd c2' (z.nd k k2 c1')⟩
    · have c2' : ¬ n % k = 0 := of_decide_eq_false (Bool.eq_false_iff.mpr c2)
      have hk3 : k ≤ 1000 := by
        by_cases z : k ≤ 1000
        · exact z
        · have := sq_le_of (a := 1001) (b := k) (by omega) (by omega)
          omega
      refine ⟨_, rfl, _, _, rfl, rfl, ⟨rfl, k + 1, rfl, by omega, by omega, fun e h1 h2 => ?_⟩, ?_⟩
      · by_cases z : e = k
        · rw [z]; exact c2'
        · exact hk e h1 (by omega)
      · show (1001 - (k + 1)).toNat < (1001 - k).toNat
        omega
  · have c1' : ¬ k * k ≤ n := of_decide_eq_false (Bool.eq_false_iff.mpr c1)
    exact q true ⟨fun _ => ⟨by omega, by omega, fun e h1 h2 => hk e h1 (lt_of_sq (by omega) (by omega) (by omega))⟩, fun _ => rfl⟩
def spAt (K : PySem.W.Frag) : Sp := fun vs H Q _ => ∃ (a : Addr) (ns : List Int) (k : Int), vs = [.ref a, .int k] ∧ SqL K H a (ns.map V.int) ∧ 0 ≤ k ∧ Q (.int (ns.getD k.toNat 0)) H
abbrev s_L_at : Stmt := top 57
theorem sc_L_at : FnScope ["_law_script", "_law_k"] ["_law_script", "_law_k"] (defScope s_L_at) := ⟨rfl, rfl, rfl, by decide +kernel, rfl, by decide +kernel, by decide +kernel⟩
theorem ok_L_at {n : Nat} {f : Addr} {fd : FuncData} (F : Fun K "_law_at" "_law_at" s_L_at f fd) (T : Txt K mg) : FnOk P w K mg base CX0 (n + 1) f fd ["_law_script", "_law_k"] (spAt K) := by
  refine F.ok sc_L_at (fun vs H Q E h => ?_) (fun cdv A outer s H vs Q E hr h => ?_)
  · obtain ⟨a, ns, k, rfl, _⟩ := h
    rfl
  obtain ⟨a, ns, k, rfl, hS, h0, q⟩ := h
  refine ⟨_, (pss_cons (ps_if (pt_cmpR op_lt (pv 1) (pe_callB call_len_seq rfl T.len bt_len (pa_cons (pv 0) pa_nil)) (nomark _)) (pss_one (ps_ret (pe_ix ix_list (pv 0) (pv 1) (fun _ _ => rfl)))) pss_nil)
    (pss_one (ps_ret pe_int))), ?_⟩
  have hl : (ns.map V.int).length = ns.length := List.length_map _
  refine ⟨_, rfl, _, rfl, a, _, rfl, .inl hS, _, _, rfl, rfl, _, rfl, ?_⟩
  refine ite2 (fun c => ?_) (fun c => ?_)
  · have c' : k < (((ns.map V.int).length : Nat) : Int) := of_decide_eq_true c
    rw [hl] at c'
    exact ⟨_, rfl, _, rfl, a, _, _, _, rfl, rfl, hS, at_some h0 c', q⟩
  · have c' : ¬ k < (((ns.map V.int).length : Nat) : Int) := of_decide_eq_false (Bool.eq_false_iff.mpr c)
    rw [hl] at c'
    have e : ns.getD k.toNat 0 = 0 := by
      rw [List.getD_eq_getElem?_getD, List.getElem?_eq_none (by omega)]
      rfl
    rw [e] at q
    exact q
abbrev s_is_remainder : Stmt := top 13
theorem sc_is_remainder : FnScope ["prime", "number"] ["prime", "number"] (defScope s_is_remainder) := ⟨rfl, rfl, rfl, by decide +kernel, rfl, by decide +kernel, by decide +kernel⟩
def spIsRem : Sp := fun vs H Q _ => ∃ p n : Int, vs = [.int p, .int n] ∧ Q (.bl (decide (0 ≤ n) && decide (n < p))) H
theorem ok_is_remainder {n : Nat} {f : Addr} {fd : FuncData} (F : Fun K "is_remainder" "is_remainder" s_is_remainder f fd) (T : Txt K mg) : FnOk P w K mg base CX0 (n + 1) f fd ["prime", "number"] spIsRem := by
  refine F.ok sc_is_remainder (fun vs H Q E h => ?_) (fun cdv A outer s H vs Q E hr h => ?_)
  · obtain ⟨p, n, rfl, _⟩ := h
    rfl
  obtain ⟨p, n, rfl, q⟩ := h
  refine ⟨_, (pss_one (ps_ret (pe_and (pe_cmpR op_le pe_int (pv 1) (nomark _)) (pe_one (pe_cmpR op_lt (pv 1) (pv 0) (nomark _)))))), ?_⟩
  refine ⟨_, rfl, _, _, rfl, rfl, _, rfl, ?_⟩
  refine ite2 (fun c => ?_) (fun c => ?_)
  · rw [c, Bool.true_and] at q
    exact ⟨_, rfl, _, rfl, _, _, rfl, rfl, q⟩
  · rw [Bool.eq_false_iff.mpr c, Bool.false_and] at q
    exact q
abbrev s_check_prime : Stmt := top 14
theorem sc_check_prime : FnScope ["prime"] ["prime"] (defScope s_check_prime) := ⟨rfl, rfl, rfl, by decide +kernel, rfl, by decide +kernel, by decide +kernel⟩
def spCkPrime : Sp := fun vs H Q _ => ∃ p : Int, vs = [.int p] ∧ Pr p ∧ Q .non H
theorem ok_check_prime {n : Nat} {f fp : Addr} {fd pd : FuncData} (F : Fun K "check_prime" "check_prime" s_check_prime f fd) (T : Txt K mg) (D_is_prime : Df K mg "is_prime" fp pd ["number"]) (G_is_prime : FnOk P w K mg base CX0 n fp pd ["number"] spIsPrime) :
    FnOk P w K mg base CX0 (n + 1) f fd ["prime"] spCkPrime := by
  refine F.ok sc_check_prime (fun vs H Q E h => ?_) (fun cdv A outer s H vs Q E hr h => ?_)
  · obtain ⟨p, rfl, _⟩ := h
    rfl
  obtain ⟨p, rfl, hp, q⟩ := h
  refine ⟨_, (pss_one (ps_if (pt_not (pt_val (pcall D_is_prime G_is_prime hr (pa_cons (pv 0) pa_nil)))) (pss_one ps_never) pss_nil)), ?_⟩
  refine ⟨_, rfl, p, rfl, fun b hb => ?_⟩
  have e : b = true := hb.mpr hp
  subst e
  exact ⟨_, rfl, iteF q⟩
theorem at_last {ns : List Int} (h : 0 < ns.length) : atI (ns.map V.int) (-1) = some (.int (ns.getD (ns.length - 1) 0)) := by
  have e : ns = ns.dropLast ++ [ns.getLast (by intro z; rw [z] at h; cases h)] := (List.dropLast_concat_getLast _).symm
  have hg : ns.getD (ns.length - 1) 0 = ns.getLast (by intro z; rw [z] at h; cases h) := by
    rw [List.getLast_eq_getElem, List.getD_eq_getElem?_getD, List.getElem?_eq_getElem (by omega)]
    rfl
  rw [hg]
  have q := atI_last (ns.dropLast.map V.int) (V.int (ns.getLast (by intro z; rw [z] at h; cases h)))
  rw [← q]
  congr 1
  conv => lhs; rw [e]
  rw [List.map_append]
  rfl
theorem int_at {ns : List Int} {i : Nat} {x : V} (h : (ns.map V.int)[i]? = some x) : ∃ v, x = .int v ∧ ns[i]? = some v := by
  rw [List.getElem?_map] at h
  cases e : ns[i]? with
  | none => rw [e] at h; cases h
  | some v => rw [e] at h; exact ⟨v, (Option.some.inj h).symm, rfl⟩
abbrev s_check_remainder : Stmt := top 15
theorem sc_check_remainder : FnScope ["prime", "number"] ["prime", "number"] (defScope s_check_remainder) := ⟨rfl, rfl, rfl, by decide +kernel, rfl, by decide +kernel, by decide +kernel⟩
def spCkRem : Sp := fun vs H Q _ => ∃ p n : Int, vs = [.int p, .int n] ∧ 0 ≤ n ∧ n < p ∧ Q .non H
theorem ok_check_remainder {n : Nat} {f fp : Addr} {fd pd : FuncData} (F : Fun K "check_remainder" "check_remainder" s_check_remainder f fd) (T : Txt K mg) (D_is_remainder : Df K mg "is_remainder" fp pd ["prime", "number"]) (G_is_remainder : FnOk P w K mg base CX0 n fp pd ["prime", "number"] spIsRem) :
    FnOk P w K mg base CX0 (n + 1) f fd ["prime", "number"] spCkRem := by
  refine F.ok sc_check_remainder (fun vs H Q E h => ?_) (fun cdv A outer s H vs Q E hr h => ?_)
  · obtain ⟨p, n, rfl, _⟩ := h
    rfl
  obtain ⟨p, n, rfl, h0, h1, q⟩ := h
  refine ⟨_, (pss_one (ps_if (pt_not (pt_val (pcall D_is_remainder G_is_remainder hr (pa_cons (pv 0) (pa_cons (pv 1) pa_nil))))) (pss_one ps_never) pss_nil)), ?_⟩
  refine ⟨_, rfl, _, rfl, p, n, rfl, _, rfl, ?_⟩
  have e : (decide (0 ≤ n) && decide (n < p)) = true := by simp [h0, h1]
  rw [e]
  exact iteF q
abbrev s_check_row : Stmt := top 19
theorem sc_check_row : FnScope ["prime", "row", "number"] ["prime", "row"] (defScope s_check_row) := ⟨rfl, rfl, rfl, by decide +kernel, rfl, by decide +kernel, by decide +kernel⟩
def spCkRow (K : PySem.W.Frag) : Sp := fun vs H Q _ => ∃ (p : Int) (a : Addr) (ns : List Int), vs = [.int p, .ref a] ∧ SqL K H a (ns.map V.int) ∧ Row p ns ∧ Q .non H
theorem ok_check_row {n : Nat} {f fr : Addr} {fd rd : FuncData} (F : Fun K "check_row" "check_row" s_check_row f fd) (T : Txt K mg) (D_is_remainder : Df K mg "is_remainder" fr rd ["prime", "number"]) (G_is_remainder : FnOk P w K mg base CX0 n fr rd ["prime", "number"] spIsRem) :
    FnOk P w K mg base CX0 (n + 1) f fd ["prime", "row"] (spCkRow K) := by
  refine F.ok sc_check_row (fun vs H Q E h => ?_) (fun cdv A outer s H vs Q E hr h => ?_)
  · obtain ⟨p, a, ns, rfl, _⟩ := h
    rfl
  obtain ⟨p, a, ns, rfl, hS, hR, q⟩ := h
  refine ⟨_, (pss_cons (ps_for PassesOwn.never rfl (pi_list (pv 1)) (pg_name (i := 2) sc_check_row.nd rfl (Or.inl rfl)) (pss_one (ps_if (pt_not (pt_val (pcall D_is_remainder G_is_remainder hr (pa_cons (pv 0) (pa_cons (pv 2) pa_nil))))) (pss_one ps_never) pss_nil)))
    (pss_one (ps_if (PW.pt (pw_and (pt_cmpR op_gt (pe_callB call_len_seq rfl T.len bt_len (pa_cons (pv 1) pa_nil)) pe_int (nomark _)) (pw_and1 (pt_cmpR op_eqI (pe_ix ix_list (pv 1) (pe_un un_neg pe_int) (fun _ _ => rfl)) pe_int (nomark _))))) (pss_one ps_never) pss_nil))), ?_⟩
  refine ⟨_, rfl, a, rfl, ⟨_, hS⟩, for_list (xs := ns.map V.int) (fun i σ H' => H' = H ∧ ∃ x, σ = [some (.int p), some (.ref a), x]) ⟨rfl, _, rfl⟩ (fun i σ H' _ h => h.1 ▸ hS) ?_ ?_⟩
  · rintro i x σ H' hx ⟨rfl, x0, rfl⟩
    obtain ⟨v, rfl, hv⟩ := int_at hx
    have hm := hR.all v (List.mem_of_getElem? hv)
    have e : (decide (0 ≤ v) && decide (v < p)) = true := by simp [hm.1, hm.2]
    refine ⟨_, rfl, _, rfl, p, v, rfl, _, rfl, ?_⟩
    rw [e]
    exact iteF ⟨rfl, _, rfl⟩
  rintro σ H' ⟨rfl, x, rfl⟩
  have hl : (ns.map V.int).length = ns.length := List.length_map _
  refine ⟨_, rfl, a, _, rfl, .inl hS, _, _, rfl, rfl, _, rfl, ?_⟩
  refine ite2 (fun c => ?_) (fun c => ?_)
  · have c' : (0 : Int) < (((ns.map V.int).length : Nat) : Int) := of_decide_eq_true c
    rw [hl] at c'
    refine ⟨_, rfl, _, rfl, a, _, _, _, rfl, rfl, hS, at_last (by omega), _, _, rfl, rfl, _, rfl, ?_⟩
    rw [decide_eq_false (hR.last (by omega))]
    exact iteF q
  · exact iteF q
abbrev s_check_rows : Stmt := top 20
theorem sc_check_rows : FnScope ["prime", "one", "two"] ["prime", "one", "two"] (defScope s_check_rows) := ⟨rfl, rfl, rfl, by decide +kernel, rfl, by decide +kernel, by decide +kernel⟩
def spCkRows (K : PySem.W.Frag) : Sp := fun vs H Q _ => ∃ (p : Int) (a b : Addr) (ns ms : List Int), vs = [.int p, .ref a, .ref b] ∧ Pr p ∧ SqL K H a (ns.map V.int) ∧ SqL K H b (ms.map V.int) ∧ Row p ns ∧ Row p ms ∧ Q .non H
theorem ok_check_rows {n : Nat} {f fp fr : Addr} {fd pd rd : FuncData} (F : Fun K "check_rows" "check_rows" s_check_rows f fd) (T : Txt K mg) (D_check_prime : Df K mg "check_prime" fp pd ["prime"]) (G_check_prime : FnOk P w K mg base CX0 n fp pd ["prime"] spCkPrime)
    (D_check_row : Df K mg "check_row" fr rd ["prime", "row"]) (G_check_row : FnOk P w K mg base CX0 n fr rd ["prime", "row"] (spCkRow K)) :
    FnOk P w K mg base CX0 (n + 1) f fd ["prime", "one", "two"] (spCkRows K) := by
  refine F.ok sc_check_rows (fun vs H Q E h => ?_) (fun cdv A outer s H vs Q E hr h => ?_)
  · obtain ⟨p, a, b, ns, ms, rfl, _⟩ := h
    rfl
  obtain ⟨p, a, b, ns, ms, rfl, hp, hSa, hSb, hRa, hRb, q⟩ := h
  refine ⟨_, (pss_cons (ps_expr (pcall D_check_prime G_check_prime hr (pa_cons (pv 0) pa_nil)))
    (pss_cons (ps_expr (pcall D_check_row G_check_row hr (pa_cons (pv 0) (pa_cons (pv 1) pa_nil))))
    (pss_one (ps_expr (pcall D_check_row G_check_row hr (pa_cons (pv 0) (pa_cons (pv 2) pa_nil))))))), ?_⟩
  exact ⟨_, rfl, p, rfl, hp, _, rfl, _, rfl, p, a, ns, rfl, hSa, hRa, _, rfl, _, rfl, p, b, ms, rfl, hSb, hRb, q⟩
theorem cut_trim {ns : List Int} {k : Int} (h0 : 0 ≤ k) (h : tl ns k.toNat = k.toNat) (h2 : tl ns k.toNat = tl ns ns.length) : cutV (ns.map V.int) none (some k) = (trim ns).map V.int := by
  have ek : k = ((k.toNat : Nat) : Int) := by omega
  rw [ek, cut_take]
  unfold trim
  rw [← h2, h]
def spTrim (K : PySem.W.Frag) : Sp := fun vs H Q _ => ∃ (a : Addr) (ns : List Int), vs = [.ref a] ∧ SqL K H a (ns.map V.int) ∧ ∀ r, H r = none → Q (.ref r) (upd H r (.lst ((trim ns).map V.int)))
abbrev s_trimmed : Stmt := top 21
theorem sc_trimmed : FnScope ["numbers", "length"] ["numbers"] (defScope s_trimmed) := ⟨rfl, rfl, rfl, by decide +kernel, rfl, by decide +kernel, by decide +kernel⟩
theorem ok_trimmed {n : Nat} {f : Addr} {fd : FuncData} (F : Fun K "trimmed" "trimmed" s_trimmed f fd) (T : Txt K mg) : FnOk P w K mg base CX0 (n + 1) f fd ["numbers"] (spTrim K) := by
  refine F.ok sc_trimmed (fun vs H Q E h => ?_) (fun cdv A outer s H vs Q E hr h => ?_)
  · obtain ⟨a, ns, rfl, _⟩ := h
    rfl
  obtain ⟨a, ns, rfl, hS, q⟩ := h
  refine ⟨_, (pss_cons (ps_set (i := 1) sc_trimmed.nd rfl (Or.inl rfl) (pe_callB call_len_seq rfl T.len bt_len (pa_cons (pv 0) pa_nil)))
    (pss_cons (ps_while PassesOwn.never (PW.pt (pw_and (pt_cmpR op_gt (pv 1) pe_int (nomark _)) (pw_and1 (pt_cmpR op_eqI (pe_ix ix_list (pv 0) (pe_op op_sub (pv 1) pe_int) (fun _ _ => rfl)) pe_int (nomark _))))) (pss_one (ps_aug (i := 1) sc_trimmed.nd rfl (Or.inl rfl) pe_int ip_sub)))
    (pss_one (ps_ret (pe_slice sl_list (pv 0) po_none (po_some (pv 1))))))), ?_⟩
  have hl : (ns.map V.int).length = ns.length := List.length_map _
  refine ⟨_, rfl, a, _, rfl, .inl hS, ?_⟩
  have fin : ∀ (k : Int), 0 ≤ k → tl ns k.toNat = k.toNat → tl ns k.toNat = tl ns ns.length → ∀ r, H r = none → Q (.ref r) (upd H r (.lst (cutV (ns.map V.int) none (some k)))) := fun k h0 h1 h2 r hr' => by
    rw [cut_trim h0 h1 h2]
    exact q r hr'
  refine while_on (fun σ H' => H' = H ∧ ∃ k : Int, σ = [some (.ref a), some (.int k)] ∧ 0 ≤ k ∧ k ≤ (ns.length : Int) ∧ tl ns k.toNat = tl ns ns.length) (fun σ _ => match σ with | [_, some (.int k)] => k.toNat | _ => 0) ⟨rfl, _, rfl, by omega, by rw [hl]; omega, by rw [hl]; rfl⟩ ?_
  rintro σ H' ⟨rfl, k, rfl, k0, k1, hk⟩
  refine ⟨_, rfl, _, _, rfl, rfl, _, rfl, ?_⟩
  refine ite2 (fun c => ?_) (fun c => ?_)
  · have c' : 0 < k := of_decide_eq_true c
    refine ⟨_, rfl, _, rfl, _, _, rfl, rfl, a, _, _, _, rfl, rfl, hS, at_some (by omega) (by omega), _, _, rfl, rfl, _, rfl, ?_⟩
    have ek : k.toNat = (k - 1).toNat + 1 := by omega
    refine ite2 (fun d => ?_) (fun d => ?_)
    · have d' : ns.getD (k - 1).toNat 0 = 0 := of_decide_eq_true d
      refine ⟨_, wn_ok, ?_⟩
      refine ⟨_, rfl, _, _, rfl, rfl, ⟨rfl, k - 1, rfl, by omega, by omega, ?_⟩, ?_⟩
      · rw [← hk, ek, tl, if_pos d']
      · show (k - 1).toNat < k.toNat
        omega
    · have d' : ¬ ns.getD (k - 1).toNat 0 = 0 := of_decide_eq_false (Bool.eq_false_iff.mpr d)
      refine ⟨_, rfl, _, rfl, _, rfl, a, _, rfl, hS, fin k k0 ?_ hk⟩
      rw [ek, tl, if_neg d']
  · have c' : ¬ 0 < k := of_decide_eq_false (Bool.eq_false_iff.mpr c)
    have e0 : k.toNat = 0 := by omega
    refine iteF ⟨_, rfl, _, rfl, _, rfl, a, _, rfl, hS, fin k k0 ?_ hk⟩
    rw [e0]
    rfl
abbrev s_number_at : Stmt := top 22
theorem sc_number_at : FnScope ["row", "power"] ["row", "power"] (defScope s_number_at) := ⟨rfl, rfl, rfl, by decide +kernel, rfl, by decide +kernel, by decide +kernel⟩
theorem ok_number_at {n : Nat} {f : Addr} {fd : FuncData} (F : Fun K "number_at" "number_at" s_number_at f fd) (T : Txt K mg) : FnOk P w K mg base CX0 (n + 1) f fd ["row", "power"] (spAt K) := by
  refine F.ok sc_number_at (fun vs H Q E h => ?_) (fun cdv A outer s H vs Q E hr h => ?_)
  · obtain ⟨a, ns, k, rfl, _⟩ := h
    rfl
  obtain ⟨a, ns, k, rfl, hS, h0, q⟩ := h
  refine ⟨_, (pss_cons (ps_if (pt_cmpR op_lt (pv 1) (pe_callB call_len_seq rfl T.len bt_len (pa_cons (pv 0) pa_nil)) (nomark _)) (pss_one (ps_ret (pe_ix ix_list (pv 0) (pv 1) (fun _ _ => rfl)))) pss_nil)
    (pss_one (ps_ret pe_int))), ?_⟩
  have hl : (ns.map V.int).length = ns.length := List.length_map _
  refine ⟨_, rfl, _, rfl, a, _, rfl, .inl hS, _, _, rfl, rfl, _, rfl, ?_⟩
  refine ite2 (fun c => ?_) (fun c => ?_)
  · have c' : k < (((ns.map V.int).length : Nat) : Int) := of_decide_eq_true c
    rw [hl] at c'
    exact ⟨_, rfl, _, rfl, a, _, _, _, rfl, rfl, hS, at_some h0 c', q⟩
  · have c' : ¬ k < (((ns.map V.int).length : Nat) : Int) := of_decide_eq_false (Bool.eq_false_iff.mpr c)
    rw [hl] at c'
    have e : ns.getD k.toNat 0 = 0 := by
      rw [List.getD_eq_getElem?_getD, List.getElem?_eq_none (by omega)]
      rfl
    rw [e] at q
    exact q
theorem ix_some {n : Nat} {i j : Nat} (h : i + j < n) : ixN n ((i : Int) + (j : Int)) = some (i + j) := by
  unfold ixN
  rw [if_pos (by omega), if_pos (by omega)]
  congr 1
theorem at_sum {ns : List Int} {i j : Nat} (h : i + j < ns.length) : atI (ns.map V.int) ((i : Int) + (j : Int)) = some (.int (ns.getD (i + j) 0)) := by
  have e : ((i : Int) + (j : Int)).toNat = i + j := by omega
  rw [at_some (by omega) (by omega), e]
theorem at_nat {ns : List Int} {i : Nat} (h : i < ns.length) : atI (ns.map V.int) (i : Int) = some (.int (ns.getD i 0)) := by
  have e : ((i : Int)).toNat = i := by omega
  rw [at_some (by omega) (by omega), e]
theorem get_at {ns : List Int} {i : Nat} {v : Int} (h : ns[i]? = some v) : ns.getD i 0 = v := by
  rw [List.getD_eq_getElem?_getD, h]
  rfl
def spMul (K : PySem.W.Frag) : Sp := fun vs H Q _ => ∃ (p : Int) (a b : Addr) (ns ms : List Int), vs = [.int p, .ref a, .ref b] ∧ Pr p ∧ SqL K H a (ns.map V.int) ∧ SqL K H b (ms.map V.int) ∧ Row p ns ∧ Row p ms ∧ ns.length ≤ 500 ∧ ms.length ≤ 500 ∧
  ∀ r H', Same H H' → H' r = some (.lst ((trim (mulOut p ns ms ns.length)).map V.int)) → Q (.ref r) H'
def spWorth (K : PySem.W.Frag) : Sp := fun vs H Q _ => ∃ (p : Int) (a : Addr) (ns : List Int) (s : Int), vs = [.int p, .ref a, .int s] ∧ Pr p ∧ SqL K H a (ns.map V.int) ∧ Row p ns ∧ 0 ≤ s ∧ s < p ∧ Q (.int (ev s ns % p)) H
def spValue (K : PySem.W.Frag) : Sp := fun vs H Q _ => ∃ (p : Int) (a : Addr) (ns : List Int) (s : Int), vs = [.int p, .ref a, .int s] ∧ Pr p ∧ SqL K H a (ns.map V.int) ∧ (∀ x ∈ ns, 0 ≤ x ∧ x < p) ∧ 0 ≤ s ∧ s < p ∧ Q (.int (ev s ns % p)) H
mutual
inductive Mt (H : Hp) : V → V → Nat → Prop
  | int (i : Int) : Mt H (.int i) (.int i) 1
  | lst {a b : Addr} {xs ys : List V} {n : Nat} (ha : H a = some (.lst xs)) (hb : H b = some (.lst ys)) (h : Mts H xs ys n) : Mt H (.ref a) (.ref b) (n + 1)
  | tup {a b : Addr} {xs ys : List V} {n : Nat} (ha : H a = some (.tup xs)) (hb : H b = some (.tup ys)) (h : Mts H xs ys n) : Mt H (.ref a) (.ref b) (n + 1)
inductive Mts (H : Hp) : List V → List V → Nat → Prop
  | nil : Mts H [] [] 0
  | cons {x y : V} {xs ys : List V} {m n : Nat} (h : Mt H x y m) (t : Mts H xs ys n) : Mts H (x :: xs) (y :: ys) (m + n)
end
theorem Mt.pos {H : Hp} {x y : V} {n : Nat} (h : Mt H x y n) : 1 ≤ n := by
  cases h <;> omega
theorem Mts.len {H : Hp} : ∀ {xs ys : List V} {n : Nat}, Mts H xs ys n → xs.length = ys.length ∧ xs.length ≤ n
  | _, _, _, .nil => ⟨rfl, Nat.le_refl _⟩
  | _, _, _, .cons h t => by
    obtain ⟨e, l⟩ := Mts.len t
    have := h.pos
    simp only [List.length_cons]
    omega
theorem Mts.append {H : Hp} : ∀ {xs ys us vs : List V} {m n : Nat}, Mts H xs ys m → Mts H us vs n → Mts H (xs ++ us) (ys ++ vs) (m + n)
  | _, _, _, _, _, _, .nil, s => by simpa using s
  | _, _, _, _, _, _, .cons h t, s => by
    have := Mts.cons h (Mts.append t s)
    rw [← Nat.add_assoc] at this
    exact this
theorem Mts.last {H : Hp} : ∀ {xs ys : List V} {n : Nat}, Mts H xs ys n → ys ≠ [] → ∃ x y m n', xs[xs.length - 1]? = some x ∧ ys[ys.length - 1]? = some y ∧ Mt H x y m ∧ Mts H xs.dropLast ys.dropLast n' ∧ n = n' + m
  | _, _, _, .nil, h => absurd rfl h
  | _, _, _, .cons (x := x) (y := y) (m := m) h .nil, _ => ⟨x, y, m, 0, rfl, rfl, h, .nil, by omega⟩
  | _, _, _, .cons (x := x) (y := y) (m := m) h (.cons h2 t2), _ => by
    obtain ⟨u, v, k, n', e1, e2, q, r, e⟩ := Mts.last (.cons h2 t2) (by simp)
    refine ⟨u, v, k, m + n', ?_, ?_, q, ?_, by omega⟩
    · simpa using e1
    · simpa using e2
    · simpa using Mts.cons h r
def Pt (H : Hp) (t : Addr) (xy : Int × Int) : Prop := H t = some (.tup [.int xy.1, .int xy.2])
def Pts (H : Hp) (ts : List Addr) (pts : List (Int × Int)) : Prop := Paired (Pt H) ts pts
theorem Pts.same {H H' : Hp} (e : Same H H') : ∀ {ts : List Addr} {pts : List (Int × Int)}, Pts H ts pts → Pts H' ts pts
  | _, _, .nil => .nil
  | _, _, .cons h t => .cons (e _ _ h) (Pts.same e t)
theorem Pts.upd {H : Hp} {a : Addr} {ys : List V} {o : HO} (ha : H a = some (.lst ys)) : ∀ {ts : List Addr} {pts : List (Int × Int)}, Pts H ts pts → Pts (L2.upd H a o) ts pts
  | _, _, .nil => .nil
  | x :: _, _, .cons h t => .cons (by
      have h' : H x = _ := h
      have : x ≠ a := fun e => by rw [e, ha] at h'; cases h'
      show L2.upd H a o x = _
      rw [upd_ne this]
      exact h) (Pts.upd ha t)
theorem Pts.snoc {H : Hp} {t : Addr} {xy : Int × Int} (h : H t = some (.tup [.int xy.1, .int xy.2])) : ∀ {ts : List Addr} {pts : List (Int × Int)}, Pts H ts pts → Pts H (ts ++ [t]) (pts ++ [xy])
  | _, _, .nil => .cons h .nil
  | _, _, .cons h0 r => .cons h0 (Pts.snoc h r)
theorem Pts.len {H : Hp} {ts : List Addr} {pts : List (Int × Int)} (h : Pts H ts pts) : ts.length = pts.length := Paired.length h
theorem Pts.get {H : Hp} : ∀ {ts : List Addr} {pts : List (Int × Int)}, Pts H ts pts → ∀ {i : Nat} {x : V}, (ts.map V.ref)[i]? = some x → ∃ t xy, x = .ref t ∧ pts[i]? = some xy ∧ H t = some (.tup [.int xy.1, .int xy.2])
  | _, _, .nil, i, x, e => by simp at e
  | t :: _, xy :: _, .cons h r, 0, x, e => ⟨t, xy, by simpa using e.symm, rfl, h⟩
  | _, _, .cons h r, i + 1, x, e => Pts.get r (by simpa using e)
def GoodPts (p : Int) (f : Int) (pts : List (Int × Int)) : Prop := (∀ xy ∈ pts, f ≤ xy.1 ∧ xy.1 < p ∧ 0 ≤ xy.2 ∧ xy.2 < p) ∧ (pts.map Prod.fst).Nodup
def spThrough (K : PySem.W.Frag) : Sp := fun vs H Q _ => ∃ (p : Int) (a : Addr) (ts : List Addr) (pts : List (Int × Int)), vs = [.int p, .ref a] ∧ Pr p ∧ SqL K H a (ts.map V.ref) ∧ Pts H ts pts ∧ GoodPts p 0 pts ∧ pts.length ≤ 100 ∧
  ∀ r (row : List Int) H', Same H H' → H' r = some (.lst (row.map V.int)) → Row p row → row.length ≤ pts.length → (∀ xy ∈ pts, ev xy.1 row % p = xy.2) → Q (.ref r) H'
def PtV (H : Hp) (g : Int → Int) (x y : V) : Prop := ∃ (z : Int) (t : Addr), x = .int z ∧ y = .ref t ∧ H t = some (.tup [.int z, .int (g z)])
theorem pts_of {H : Hp} {g : Int → Int} : ∀ {xs : List Int} {ys : List V}, Paired (PtV H g) (xs.map V.int) ys → ∃ ts : List Addr, ys = ts.map V.ref ∧ Pts H ts (xs.map fun z => (z, g z))
  | [], _, .nil => ⟨[], rfl, .nil⟩
  | x :: r, _, .cons h t => by
    obtain ⟨ts, e, k⟩ := pts_of t
    obtain ⟨z, a, e1, e2, e3⟩ := h
    cases e1
    exact ⟨a :: ts, by rw [e, e2]; rfl, .cons e3 k⟩
abbrev s_inverse_of : Stmt := top 16
theorem sc_inverse_of : FnScope ["prime", "number", "factor", "left"] ["prime", "number"] (defScope s_inverse_of) := ⟨rfl, rfl, rfl, by decide +kernel, rfl, by decide +kernel, by decide +kernel⟩
def spInvOf : Sp := fun vs H Q _ => ∃ p n : Int, vs = [.int p, .int n] ∧ Pr p ∧ 0 < n ∧ n < p ∧ ∀ f : Int, 1 ≤ f → f < p → f * n % p = 1 → Q (.int f) H
theorem ok_inverse_of {n : Nat} {f : Addr} {fd : FuncData} (F : Fun K "inverse_of" "inverse_of" s_inverse_of f fd) (T : Txt K mg) : FnOk P w K mg base CX0 (n + 1) f fd ["prime", "number"] spInvOf := by
  refine F.ok sc_inverse_of (fun vs H Q E h => ?_) (fun cdv A outer s H vs Q E hr h => ?_)
  · obtain ⟨p, n, rfl, _⟩ := h
    rfl
  obtain ⟨p, n, rfl, hp, h0, h1, q4⟩ := h
  have hp0 := hp.lo
  have hpm := hp.hi
  refine ⟨_, (pss_cons (ps_set (i := 2) sc_inverse_of.nd rfl (Or.inl rfl) pe_int)
    (pss_cons (ps_set (i := 3) sc_inverse_of.nd rfl (Or.inl rfl) (pv 1))
    (pss_cons (ps_while PassesOwn.never (pt_cmpR op_neI (pv 3) pe_int (nomark _)) (pss_cons (ps_set (i := 2) sc_inverse_of.nd rfl (Or.inl rfl) (pe_op op_mod (pe_op op_mul (pe_un un_neg (pv 2)) (pe_op op_fdiv (pv 0) (pv 3))) (pv 0)))
    (pss_one (ps_set (i := 3) sc_inverse_of.nd rfl (Or.inl rfl) (pe_op op_mod (pv 0) (pv 3))))))
    (pss_one (ps_ret (pv 2)))))), ?_⟩
  refine ⟨_, rfl, ?_⟩
  refine while_on (fun σ H' => H' = H ∧ ∃ f l : Int, σ = [some (.int p), some (.int n), some (.int f), some (.int l)] ∧ InvAt p n f l) (fun σ _ => match σ with | [_, _, _, some (.int l)] => l.toNat | _ => 0) ⟨rfl, 1, n, rfl, InvAt.start hp (by omega) h1⟩ ?_
  rintro σ H' ⟨rfl, f, l, rfl, hI⟩
  have i1 := hI.f0
  have i2 := hI.f1
  have i3 := hI.l0
  have i4 := hI.l1
  refine ⟨_, rfl, _, _, rfl, rfl, _, rfl, ?_⟩
  refine ite2 (fun d => ?_) (fun d => ?_)
  · have d' : ¬ l = 1 := by simpa using d
    obtain ⟨hN, hlt⟩ := hI.next hp d'
    refine ⟨_, wn_ok, ?_⟩
    refine ⟨_, rfl, _, rfl, _, rfl, _, rfl, _, _, rfl, rfl, ⟨by omega, by omega⟩, _, _, rfl, rfl, .inl ⟨by omega, by omega⟩, _, rfl, _, _, rfl, rfl, (show (0 : Int) < p by omega), ?_⟩
    refine ⟨_, rfl, _, rfl, _, _, rfl, rfl, (show (0 : Int) < l by omega), ⟨rfl, _, _, rfl, hN⟩, ?_⟩
    show (p % l).toNat < l.toNat
    have := hN.l0
    omega
  · have d' : l = 1 := by simpa using d
    subst d'
    obtain ⟨r1, r2, r3⟩ := hI.done hp
    exact ⟨_, rfl, q4 f r1 r2 r3⟩
inductive Wd where
  | done | prime | row | spot | none | same | many | enough | all
  deriving DecidableEq
def Wd.str : Wd → Str
  | .done => "done" | .prime => "prime" | .row => "row" | .spot => "spot" | .none => "none" | .same => "same" | .many => "many" | .enough => "enough" | .all => "all"
structure Cls8 where
  (N R B D S M E A : Addr)
def Cls8.at (c : Cls8) : Wd → Addr
  | .done => c.N | .prime => c.N | .row => c.R | .spot => c.B | .none => c.D | .same => c.S | .many => c.M | .enough => c.E | .all => c.A
def thenW (a b : Wd) : Wd := if a = .done then b else a
theorem thenW_done {a b : Wd} (h : a = .done) : thenW a b = b := by unfold thenW; rw [if_pos h]
theorem thenW_ne {a b : Wd} (h : a ≠ .done) : thenW a b = a := by unfold thenW; rw [if_neg h]
theorem thenW_both {a b : Wd} (h : thenW a b = .done) : a = .done ∧ b = .done := by
  by_cases e : a = .done
  · exact ⟨e, by rwa [thenW_done e] at h⟩
  · rw [thenW_ne e] at h
    exact absurd h e
open Classical in
noncomputable def ifW (c : Prop) (w : Wd) : Wd := if c then .done else w
theorem ifW_done {c : Prop} {w : Wd} (h : c) : ifW c w = .done := by unfold ifW; rw [if_pos h]
theorem ifW_ne {c : Prop} {w : Wd} (h : ¬ c) : ifW c w = w := by unfold ifW; rw [if_neg h]
theorem ifW_of {c : Prop} {w : Wd} (hw : w ≠ .done) (h : ifW c w = .done) : c := by
  by_cases e : c
  · exact e
  · rw [ifW_ne e] at h
    exact absurd h hw
noncomputable def wPr (p : Int) : Wd := ifW (Pr p) .prime
noncomputable def wRow (p : Int) (ns : List Int) : Wd := ifW (Row p ns) .row
noncomputable def wRem (p x : Int) : Wd := ifW (0 ≤ x ∧ x < p) .spot
noncomputable def wRows (p : Int) (ns ms : List Int) : Wd := thenW (wPr p) (thenW (wRow p ns) (wRow p ms))
noncomputable def wSplit (p : Int) (ns ms : List Int) : Wd := thenW (wRows p ns ms) (ifW (ms ≠ []) .none)
noncomputable def wWorth (p : Int) (ns : List Int) (x : Int) : Wd := thenW (wPr p) (thenW (wRow p ns) (wRem p x))
noncomputable def wRoots (p : Int) (ns : List Int) : Wd := thenW (wPr p) (thenW (wRow p ns) (ifW (ns ≠ []) .all))
noncomputable def wInv (p x : Int) : Wd := thenW (wPr p) (thenW (wRem p x) (ifW (x ≠ 0) .none))
noncomputable def wPts (p f : Int) (pts : List (Int × Int)) : Wd := thenW (ifW (∀ xy ∈ pts, f ≤ xy.1 ∧ xy.1 < p ∧ 0 ≤ xy.2 ∧ xy.2 < p) .spot) (ifW (pts.map Prod.fst).Nodup .same)
noncomputable def wThru (p f : Int) (pts : List (Int × Int)) : Wd := thenW (wPr p) (wPts p f pts)
noncomputable def wRowFor (p : Int) (pts : List (Int × Int)) (nd x : Int) : Wd := thenW (thenW (wThru p 1 pts) (wRem p x)) (ifW ((pts.length : Int) < nd) .enough)
noncomputable def wAllRem (p : Int) (ns : List Int) : Wd := ifW (∀ x ∈ ns, 0 ≤ x ∧ x < p) .spot
noncomputable def wShares (p x : Int) (os : List Int) (c : Int) : Wd := thenW (thenW (wPr p) (wAllRem p (x :: os))) (ifW (c < p) .many)
theorem rows_done {p : Int} {ns ms : List Int} (h : wRows p ns ms = .done) : Pr p ∧ Row p ns ∧ Row p ms := by
  obtain ⟨h1, h2⟩ := thenW_both h
  obtain ⟨h2, h3⟩ := thenW_both h2
  exact ⟨ifW_of (by decide) h1, ifW_of (by decide) h2, ifW_of (by decide) h3⟩
theorem pts_done {p f : Int} {pts : List (Int × Int)} (h : wPts p f pts = .done) : GoodPts p f pts := by
  obtain ⟨h1, h2⟩ := thenW_both h
  exact ⟨ifW_of (by decide) h1, ifW_of (by decide) h2⟩
theorem thru_done {p f : Int} {pts : List (Int × Int)} (h : wThru p f pts = .done) : Pr p ∧ GoodPts p f pts := by
  obtain ⟨h1, h2⟩ := thenW_both h
  exact ⟨ifW_of (by decide) h1, pts_done h2⟩
def Say0 (c : Cls8) (w : Wd) (H : Hp) (Q : VK) (E : XK) : Prop := (w = .done → Q .non H) ∧ (w ≠ .done → E (.ref (c.at w)) none H)
def Says (c : Cls8) (w : Wd) (H : Hp) (Q : VK) (E : XK) : Prop := ∀ H', Same H H' → (w = .done → ∀ v, Q v H') ∧ (w ≠ .done → E (.ref (c.at w)) none H')
theorem Says.next {c : Cls8} {a b : Wd} {H H1 : Hp} {Q : VK} {E : XK} (h : Says c (thenW a b) H Q E) (e : a = .done) (hs : Same H H1) : Says c b H1 Q E := fun H' s => by
  have := h H' (hs.trans s)
  rwa [thenW_done e] at this
theorem Says.out {c : Cls8} {a b : Wd} {H H1 : Hp} {Q : VK} {E : XK} (h : Says c (thenW a b) H Q E) (e : a ≠ .done) (hs : Same H H1) : E (.ref (c.at a)) none H1 := by
  have := (h H1 hs).2
  rw [thenW_ne e] at this
  exact this e
theorem Says.first {c : Cls8} {a b : Wd} {H : Hp} {Q Q1 : VK} {E : XK} (h : Says c (thenW a b) H Q E) (k : a = .done → ∀ H1 v, Same H H1 → Says c b H1 Q E → Q1 v H1) : Says c a H Q1 E := fun H' s => ⟨fun e v => k e H' v s (h.next e s), fun e => h.out e s⟩
theorem Says.first0 {c : Cls8} {a b : Wd} {H : Hp} {Q Q1 : VK} {E : XK} (h : Says c (thenW a b) H Q E) (k : a = .done → Says c b H Q E → Q1 .non H) : Say0 c a H Q1 E := ⟨fun e => k e (h.next e (Same.refl H)), fun e => h.out e (Same.refl H)⟩
theorem Says.weak {c : Cls8} {a : Wd} {H : Hp} {Q Q1 : VK} {E : XK} (h : Says c a H Q E) (e : a ≠ .done) : Says c a H Q1 E := fun H' s => ⟨fun z => absurd z e, (h H' s).2⟩
theorem Say0.of {c : Cls8} {a : Wd} {H : Hp} {Q : VK} {E : XK} (h : Says c a H Q E) : Say0 c a H Q E := ⟨fun e => (h H (Same.refl H)).1 e _, (h H (Same.refl H)).2⟩
theorem Says.only {c : Cls8} {a : Wd} {H : Hp} {Q Q1 : VK} {E : XK} (h : Says c a H Q E) (e : a ≠ .done) : Say0 c a H Q1 E := ⟨fun z => absurd z e, (h H (Same.refl H)).2⟩
def spCkPrimeE (c : Cls8) : Sp := fun vs H Q E => ∃ p : Int, vs = [.int p] ∧ Say0 c (wPr p) H Q E
theorem okE_check_prime {n : Nat} {f fp : Addr} {fd pd : FuncData} {c : Cls8} (F : Fun K "check_prime" "check_prime" s_check_prime f fd) (T : Txt K mg) (T_NotPrime : mg "NotPrime" = some (.ref c.N)) (X_NotPrime : PySem.W.excIn K c.N bmV "ValueError.__new__" = true)
    (D_is_prime : Df K mg "is_prime" fp pd ["number"]) (G_is_prime : FnOk P w K mg base CX0 n fp pd ["number"] spIsPrime) : FnOk P w K mg base (CXE P w) (n + 1) f fd ["prime"] (spCkPrimeE c) := by
  refine F.okE sc_check_prime (fun vs H Q E h => ?_) (fun cdv A outer s H vs Q E hr h => ?_)
  · obtain ⟨p, rfl, _⟩ := h
    rfl
  obtain ⟨p, rfl, q1, q2⟩ := h
  refine ⟨_, (pss_one (ps_if (pt_not (pt_val (pcall D_is_prime G_is_prime hr (pa_cons (pv 0) pa_nil)))) (pss_one (ps_raise T_NotPrime X_NotPrime)) pss_nil)), ?_⟩
  refine ⟨_, rfl, p, rfl, fun b hb => ⟨_, rfl, ?_⟩⟩
  cases b with
  | true => exact iteF (q1 (ifW_done (hb.mp rfl)))
  | false =>
    have e : wPr p = .prime := ifW_ne fun z => Bool.noConfusion (hb.mpr z)
    rw [e] at q2
    exact iteT (q2 (by decide))
def spCkRemE (c : Cls8) : Sp := fun vs H Q E => ∃ p n : Int, vs = [.int p, .int n] ∧ Say0 c (wRem p n) H Q E
theorem okE_check_remainder {n : Nat} {f fp : Addr} {fd pd : FuncData} {c : Cls8} (F : Fun K "check_remainder" "check_remainder" s_check_remainder f fd) (T : Txt K mg) (T_BadSpot : mg "BadSpot" = some (.ref c.B)) (X_BadSpot : PySem.W.excIn K c.B bmV "ValueError.__new__" = true)
    (D_is_remainder : Df K mg "is_remainder" fp pd ["prime", "number"]) (G_is_remainder : FnOk P w K mg base CX0 n fp pd ["prime", "number"] spIsRem) : FnOk P w K mg base (CXE P w) (n + 1) f fd ["prime", "number"] (spCkRemE c) := by
  refine F.okE sc_check_remainder (fun vs H Q E h => ?_) (fun cdv A outer s H vs Q E hr h => ?_)
  · obtain ⟨p, n, rfl, _⟩ := h
    rfl
  obtain ⟨p, n, rfl, q1, q2⟩ := h
  refine ⟨_, (pss_one (ps_if (pt_not (pt_val (pcall D_is_remainder G_is_remainder hr (pa_cons (pv 0) (pa_cons (pv 1) pa_nil))))) (pss_one (ps_raise T_BadSpot X_BadSpot)) pss_nil)), ?_⟩
  refine ⟨_, rfl, _, rfl, p, n, rfl, _, rfl, ?_⟩
  by_cases d : 0 ≤ n ∧ n < p
  · have e : (decide (0 ≤ n) && decide (n < p)) = true := by simp [d.1, d.2]
    rw [e]
    exact iteF (q1 (ifW_done d))
  · have e : (decide (0 ≤ n) && decide (n < p)) = false := by
      rw [Bool.and_eq_false_iff]
      by_cases d2 : 0 ≤ n
      · exact .inr (decide_eq_false fun z => d ⟨d2, z⟩)
      · exact .inl (decide_eq_false d2)
    rw [e]
    have e : wRem p n = .spot := ifW_ne d
    rw [e] at q2
    exact iteT (q2 (by decide))
abbrev s_inverse : Stmt := top 17
theorem sc_inverse : FnScope ["prime", "number"] ["prime", "number"] (defScope s_inverse) := ⟨rfl, rfl, rfl, by decide +kernel, rfl, by decide +kernel, by decide +kernel⟩
def spInvE (c : Cls8) : Sp := fun vs H Q E => ∃ p n : Int, vs = [.int p, .int n] ∧ Says c (wInv p n) H Q E
theorem okE_inverse {n : Nat} {f f1 f2 f3 : Addr} {fd d1 d2 d3 : FuncData} {c : Cls8} (F : Fun K "inverse" "inverse" s_inverse f fd) (T : Txt K mg) (T_NoDivisor : mg "NoDivisor" = some (.ref c.D)) (X_NoDivisor : PySem.W.excIn K c.D bmV "ValueError.__new__" = true)
    (D_check_prime : Df K mg "check_prime" f1 d1 ["prime"]) (GE_check_prime : FnOk P w K mg base (CXE P w) n f1 d1 ["prime"] (spCkPrimeE c))
    (D_check_remainder : Df K mg "check_remainder" f2 d2 ["prime", "number"]) (GE_check_remainder : FnOk P w K mg base (CXE P w) n f2 d2 ["prime", "number"] (spCkRemE c))
    (D_inverse_of : Df K mg "inverse_of" f3 d3 ["prime", "number"]) (G_inverse_of : FnOk P w K mg base CX0 n f3 d3 ["prime", "number"] spInvOf) :
    FnOk P w K mg base (CXE P w) (n + 1) f fd ["prime", "number"] (spInvE c) := by
  refine F.okE sc_inverse (fun vs H Q E h => ?_) (fun cdv A outer s H vs Q E hr h => ?_)
  · obtain ⟨p, n, rfl, _⟩ := h
    rfl
  obtain ⟨p, n, rfl, q⟩ := h
  refine ⟨_, (pss_cons (ps_expr (pcallE D_check_prime GE_check_prime hr (pa_cons (pv 0) pa_nil)))
    (pss_cons (ps_expr (pcallE D_check_remainder GE_check_remainder hr (pa_cons (pv 0) (pa_cons (pv 1) pa_nil))))
    (pss_cons (ps_if (pt_cmpR op_eqI (pv 1) pe_int (nomark _)) (pss_one (ps_raise T_NoDivisor X_NoDivisor)) pss_nil)
    (pss_one (ps_ret (pcall D_inverse_of G_inverse_of hr (pa_cons (pv 0) (pa_cons (pv 1) pa_nil)))))))), ?_⟩
  refine ⟨_, rfl, p, rfl, q.first0 fun e1 q => ?_⟩
  have hp : Pr p := ifW_of (by decide) e1
  refine ⟨_, rfl, _, rfl, p, n, rfl, q.first0 fun e2 q => ?_⟩
  have hn : 0 ≤ n ∧ n < p := ifW_of (by decide) e2
  refine ⟨_, rfl, _, _, rfl, rfl, _, rfl, ?_⟩
  refine ite2 (fun d => ?_) (fun d => ?_)
  · have d' : n = 0 := of_decide_eq_true d
    have e : ifW (n ≠ 0) .none = .none := ifW_ne fun z => z d'
    rw [e] at q
    exact (q H (Same.refl H)).2 (by decide)
  have d' : ¬ n = 0 := of_decide_eq_false (Bool.eq_false_iff.mpr d)
  exact ⟨_, rfl, _, rfl, p, n, rfl, hp, (by omega), hn.2, fun f r1 r2 r3 => (q H (Same.refl H)).1 (ifW_done d') _⟩
def spCkRowE (K : PySem.W.Frag) (c : Cls8) : Sp := fun vs H Q E => ∃ (p : Int) (a : Addr) (ns : List Int), vs = [.int p, .ref a] ∧ SqL K H a (ns.map V.int) ∧ Say0 c (wRow p ns) H Q E
theorem okE_check_row {n : Nat} {f fr : Addr} {fd rd : FuncData} {c : Cls8} (F : Fun K "check_row" "check_row" s_check_row f fd) (T : Txt K mg) (T_BadRow : mg "BadRow" = some (.ref c.R)) (X_BadRow : PySem.W.excIn K c.R bmV "ValueError.__new__" = true)
    (D_is_remainder : Df K mg "is_remainder" fr rd ["prime", "number"]) (G_is_remainder : FnOk P w K mg base CX0 n fr rd ["prime", "number"] spIsRem) :
    FnOk P w K mg base (CXE P w) (n + 1) f fd ["prime", "row"] (spCkRowE K c) := by
  refine F.okE sc_check_row (fun vs H Q E h => ?_) (fun cdv A outer s H vs Q E hr h => ?_)
  · obtain ⟨p, a, ns, rfl, _⟩ := h
    rfl
  obtain ⟨p, a, ns, rfl, hS, q1, q2⟩ := h
  have out : ¬ Row p ns → E (.ref c.R) none H := fun hn => by
    have e : wRow p ns = .row := ifW_ne hn
    rw [e] at q2
    exact q2 (by decide)
  refine ⟨_, (pss_cons (ps_forL rfl (pi_list (pv 1)) (pg_name (i := 2) sc_check_row.nd rfl (Or.inl rfl)) (pss_one (ps_if (pt_not (pt_val (pcall D_is_remainder G_is_remainder hr (pa_cons (pv 0) (pa_cons (pv 2) pa_nil))))) (pss_one (ps_raiseL T_BadRow X_BadRow)) pss_nil)))
    (pss_one (ps_if (PW.pt (pw_and (pt_cmpR op_gt (pe_callB call_len_seq rfl T.len bt_len (pa_cons (pv 1) pa_nil)) pe_int (nomark _)) (pw_and1 (pt_cmpR op_eqI (pe_ix ix_list (pv 1) (pe_un un_neg pe_int) (fun _ _ => rfl)) pe_int (nomark _))))) (pss_one (ps_raise T_BadRow X_BadRow)) pss_nil))), ?_⟩
  refine ⟨_, rfl, a, rfl, ⟨_, hS⟩, for_list (xs := ns.map V.int) (fun i σ H' => H' = H ∧ (∀ j v, j < i → ns[j]? = some v → 0 ≤ v ∧ v < p) ∧ ∃ x, σ = [some (.int p), some (.ref a), x]) ⟨rfl, (fun j v hj => absurd hj (Nat.not_lt_zero j)), _, rfl⟩ (fun i σ H' _ h => h.1 ▸ hS) ?_ ?_⟩
  · rintro i x σ H' hx ⟨rfl, hb, x0, rfl⟩
    obtain ⟨v, rfl, hv⟩ := int_at hx
    refine ⟨_, rfl, _, rfl, p, v, rfl, _, rfl, ?_⟩
    by_cases d : 0 ≤ v ∧ v < p
    · have e : (decide (0 ≤ v) && decide (v < p)) = true := by simp [d.1, d.2]
      rw [e]
      refine iteF ⟨rfl, fun j u hj hu => ?_, _, rfl⟩
      rcases Nat.lt_succ_iff_lt_or_eq.mp hj with hj | rfl
      · exact hb j u hj hu
      · rw [hv] at hu
        cases hu
        exact d
    · have e : (decide (0 ≤ v) && decide (v < p)) = false := by
        rw [Bool.and_eq_false_iff]
        by_cases d2 : 0 ≤ v
        · exact .inr (decide_eq_false fun z => d ⟨d2, z⟩)
        · exact .inl (decide_eq_false d2)
      rw [e]
      exact iteT (out fun z => d (z.all v (List.mem_of_getElem? hv)))
  rintro σ H' ⟨rfl, hb, x, rfl⟩
  have hl : (ns.map V.int).length = ns.length := List.length_map _
  have hall : ∀ x ∈ ns, 0 ≤ x ∧ x < p := fun x hx => by
    obtain ⟨j, hj⟩ := List.mem_iff_getElem?.mp hx
    exact hb j x (by rw [hl]; exact (List.getElem?_eq_some_iff.mp hj).1) hj
  refine ⟨_, rfl, a, _, rfl, .inl hS, _, _, rfl, rfl, _, rfl, ?_⟩
  refine ite2 (fun d => ?_) (fun d => ?_)
  · have d' : (0 : Int) < (((ns.map V.int).length : Nat) : Int) := of_decide_eq_true d
    rw [hl] at d'
    refine ⟨_, rfl, _, rfl, a, _, _, _, rfl, rfl, hS, at_last (by omega), _, _, rfl, rfl, _, rfl, ?_⟩
    refine ite2 (fun g => ?_) (fun g => ?_)
    · exact out fun z => z.last (by omega) (of_decide_eq_true g)
    · exact q1 (ifW_done ⟨hall, fun _ => of_decide_eq_false (Bool.eq_false_iff.mpr g)⟩)
  · have d' : ¬ (0 : Int) < (((ns.map V.int).length : Nat) : Int) := of_decide_eq_false (Bool.eq_false_iff.mpr d)
    rw [hl] at d'
    exact iteF (q1 (ifW_done ⟨hall, fun z => absurd z (by omega)⟩))
def spCkRowsE (K : PySem.W.Frag) (c : Cls8) : Sp := fun vs H Q E => ∃ (p : Int) (a b : Addr) (ns ms : List Int), vs = [.int p, .ref a, .ref b] ∧ SqL K H a (ns.map V.int) ∧ SqL K H b (ms.map V.int) ∧ Say0 c (wRows p ns ms) H Q E
theorem okE_check_rows {n : Nat} {f fp fr : Addr} {fd pd rd : FuncData} {c : Cls8} (F : Fun K "check_rows" "check_rows" s_check_rows f fd) (T : Txt K mg) (D_check_prime : Df K mg "check_prime" fp pd ["prime"]) (GE_check_prime : FnOk P w K mg base (CXE P w) n fp pd ["prime"] (spCkPrimeE c))
    (D_check_row : Df K mg "check_row" fr rd ["prime", "row"]) (GE_check_row : FnOk P w K mg base (CXE P w) n fr rd ["prime", "row"] (spCkRowE K c)) :
    FnOk P w K mg base (CXE P w) (n + 1) f fd ["prime", "one", "two"] (spCkRowsE K c) := by
  refine F.okE sc_check_rows (fun vs H Q E h => ?_) (fun cdv A outer s H vs Q E hr h => ?_)
  · obtain ⟨p, a, b, ns, ms, rfl, _⟩ := h
    rfl
  obtain ⟨p, a, b, ns, ms, rfl, hSa, hSb, q1, q2⟩ := h
  refine ⟨_, (pss_cons (ps_expr (pcallE D_check_prime GE_check_prime hr (pa_cons (pv 0) pa_nil)))
    (pss_cons (ps_expr (pcallE D_check_row GE_check_row hr (pa_cons (pv 0) (pa_cons (pv 1) pa_nil))))
    (pss_one (ps_expr (pcallE D_check_row GE_check_row hr (pa_cons (pv 0) (pa_cons (pv 2) pa_nil))))))), ?_⟩
  refine ⟨_, rfl, p, rfl, fun e1 => ?_, fun e1 => ?_⟩
  · refine ⟨_, rfl, _, rfl, p, a, ns, rfl, hSa, fun e2 => ?_, fun e2 => ?_⟩
    · refine ⟨_, rfl, _, rfl, p, b, ms, rfl, hSb, fun e3 => ?_, fun e3 => ?_⟩
      · exact q1 (by unfold wRows; rw [thenW_done e1, thenW_done e2, e3])
      · have e : wRows p ns ms = wRow p ms := by unfold wRows; rw [thenW_done e1, thenW_done e2]
        rw [e] at q2
        exact q2 e3
    · have e : wRows p ns ms = wRow p ns := by unfold wRows; rw [thenW_done e1, thenW_ne e2]
      rw [e] at q2
      exact q2 e2
  · have e : wRows p ns ms = wPr p := by unfold wRows; rw [thenW_ne e1]
    rw [e] at q2
    exact q2 e1
abbrev s_sum_of : Stmt := top 24
theorem sc_sum_of : FnScope ["prime", "one", "two", "length"] ["prime", "one", "two"] (defScope s_sum_of) := ⟨rfl, rfl, rfl, by decide +kernel, rfl, by decide +kernel, by decide +kernel⟩
def spSumOf (K : PySem.W.Frag) : Sp := fun vs H Q _ => ∃ (p : Int) (a b : Addr) (ns ms : List Int), vs = [.int p, .ref a, .ref b] ∧ 0 < p ∧ SqL K H a (ns.map V.int) ∧ SqL K H b (ms.map V.int) ∧ ns.length ≤ 500 ∧ ms.length ≤ 500 ∧
  ∀ r H', Same H H' → H' r = some (.lst ((trim ((List.range (max ns.length ms.length)).map fun k => (ns.getD k 0 + ms.getD k 0) % p)).map V.int)) → H r = none → Q (.ref r) H'
theorem ok_sum_of {n : Nat} {f ft fn : Addr} {fd td nd : FuncData} (F : Fun K "sum_of" "sum_of" s_sum_of f fd) (T : Txt K mg) (D_trimmed : Df K mg "trimmed" ft td ["numbers"]) (G_trimmed : FnOk P w K mg base CX0 n ft td ["numbers"] (spTrim K)) (D_number_at : Df K mg "number_at" fn nd ["row", "power"]) (G_number_at : FnOk P w K mg base CX0 n fn nd ["row", "power"] (spAt K)) :
    FnOk P w K mg base CX0 (n + 1) f fd ["prime", "one", "two"] (spSumOf K) := by
  refine F.ok sc_sum_of (fun vs H Q E h => ?_) (fun cdv A outer s H vs Q E hr h => ?_)
  · obtain ⟨p, a, b, ns, ms, rfl, _⟩ := h
    rfl
  obtain ⟨p, a, b, ns, ms, rfl, hp0, hSa, hSb, hla, hlb, q⟩ := h
  refine ⟨_, (pss_cons (ps_set (i := 3) sc_sum_of.nd rfl (Or.inl rfl) (pe_callB (call_max2 rfl) rfl T.max bt_max (pa_cons (pe_callB call_len_seq rfl T.len bt_len (pa_cons (pv 1) pa_nil)) (pa_cons (pe_callB call_len_seq rfl T.len bt_len (pa_cons (pv 2) pa_nil)) pa_nil))))
    (pss_one (ps_ret (pcall D_trimmed G_trimmed hr (pa_cons (pe_comp (N' := ["power", "prime", "one", "two"]) (js := [none, some 0, some 1, some 2]) (compOk_of rfl) rfl (pi_range1 rfl T.range (pa_cons (pv 3) pa_nil)) (fun _ _ _ _ => (pg_name (i := 0) (show (["power", "prime", "one", "two"] : List Str).Nodup by decide +kernel) rfl (Or.inl rfl) (Or.inr rfl))) (fun _ _ _ _ => pif_nil) (fun _ _ _ _ => (pe_op op_mod (pe_op op_add (pcall D_number_at G_number_at hr (pa_cons (pv 2) (pa_cons (pv 0) pa_nil))) (pcall D_number_at G_number_at hr (pa_cons (pv 3) (pa_cons (pv 0) pa_nil)))) (pv 1)))) pa_nil))))), ?_⟩
  refine ⟨_, rfl, a, _, rfl, .inl hSa, _, rfl, b, _, rfl, .inl hSb, _, _, rfl, ?_⟩
  have hL : (if (((ms.map V.int).length : Nat) : Int) > (((ns.map V.int).length : Nat) : Int) then (((ms.map V.int).length : Nat) : Int) else (((ns.map V.int).length : Nat) : Int)) = ((max ns.length ms.length : Nat) : Int) := by
    rw [List.length_map, List.length_map]
    split <;> omega
  rw [hL]
  refine ⟨_, rfl, _, rfl, (by omega), (by omega), fun D hD => ?_⟩
  have eN : (((max ns.length ms.length : Nat) : Int)).toNat = max ns.length ms.length := by omega
  rw [eN]
  refine comp_all (xs := rangeV 0 (max ns.length ms.length)) hD (by rw [rangeV_length]; exact Nat.le_of_lt (small1000 (by omega))) (fun x y => ∃ k : Nat, x = .int (0 + (k : Int)) ∧ y = .int ((ns.getD k 0 + ms.getD k 0) % p)) itr_go ?_ ?_
  · intro x H1 R hx hs z
    obtain ⟨i, hi, rfl⟩ := rangeV_mem hx
    have ei : (0 + (i : Int)).toNat = i := by omega
    refine ⟨_, rfl, _, rfl, a, ns, _, rfl, hs.seq hSa, (by omega), _, rfl, _, rfl, b, ms, _, rfl, hs.seq hSb, (by omega), _, _, rfl, rfl, _, rfl, _, _, rfl, rfl, (show (0 : Int) < p by omega), ?_⟩
    rw [ei]
    exact z _ _ (Same.refl _) ⟨i, rfl, rfl⟩
  · intro ys H1 hF hs hDy
    have hys : ys = ((List.range (max ns.length ms.length)).map fun k => (ns.getD k 0 + ms.getD k 0) % p).map V.int := by
      rw [List.map_map]
      refine Paired.map_eq (g := fun (i : Nat) => V.int (0 + (i : Int))) hF fun i _ y h => ?_
      obtain ⟨k, e, e2⟩ := h
      have ek : k = i := by
        injection e with e
        omega
      rw [e2, ek]
      rfl
    subst hys
    exact ⟨D, _, rfl, SqL.of hDy, fun r hr' => q r _ (hs.trans (same_new hr' _)) upd_same (hs.free hr')⟩
abbrev s_difference_of : Stmt := top 25
theorem sc_difference_of : FnScope ["prime", "one", "two", "length"] ["prime", "one", "two"] (defScope s_difference_of) := ⟨rfl, rfl, rfl, by decide +kernel, rfl, by decide +kernel, by decide +kernel⟩
def spDiffOf (K : PySem.W.Frag) : Sp := fun vs H Q _ => ∃ (p : Int) (a b : Addr) (ns ms : List Int), vs = [.int p, .ref a, .ref b] ∧ 0 < p ∧ SqL K H a (ns.map V.int) ∧ SqL K H b (ms.map V.int) ∧ ns.length ≤ 500 ∧ ms.length ≤ 500 ∧
  ∀ r H', Same H H' → H' r = some (.lst ((trim ((List.range (max ns.length ms.length)).map fun k => (ns.getD k 0 - ms.getD k 0) % p)).map V.int)) → H r = none → Q (.ref r) H'
theorem ok_difference_of {n : Nat} {f ft fn : Addr} {fd td nd : FuncData} (F : Fun K "difference_of" "difference_of" s_difference_of f fd) (T : Txt K mg) (D_trimmed : Df K mg "trimmed" ft td ["numbers"]) (G_trimmed : FnOk P w K mg base CX0 n ft td ["numbers"] (spTrim K)) (D_number_at : Df K mg "number_at" fn nd ["row", "power"]) (G_number_at : FnOk P w K mg base CX0 n fn nd ["row", "power"] (spAt K)) :
    FnOk P w K mg base CX0 (n + 1) f fd ["prime", "one", "two"] (spDiffOf K) := by
  refine F.ok sc_difference_of (fun vs H Q E h => ?_) (fun cdv A outer s H vs Q E hr h => ?_)
  · obtain ⟨p, a, b, ns, ms, rfl, _⟩ := h
    rfl
  obtain ⟨p, a, b, ns, ms, rfl, hp0, hSa, hSb, hla, hlb, q⟩ := h
  refine ⟨_, (pss_cons (ps_set (i := 3) sc_difference_of.nd rfl (Or.inl rfl) (pe_callB (call_max2 rfl) rfl T.max bt_max (pa_cons (pe_callB call_len_seq rfl T.len bt_len (pa_cons (pv 1) pa_nil)) (pa_cons (pe_callB call_len_seq rfl T.len bt_len (pa_cons (pv 2) pa_nil)) pa_nil))))
    (pss_one (ps_ret (pcall D_trimmed G_trimmed hr (pa_cons (pe_comp (N' := ["power", "prime", "one", "two"]) (js := [none, some 0, some 1, some 2]) (compOk_of rfl) rfl (pi_range1 rfl T.range (pa_cons (pv 3) pa_nil)) (fun _ _ _ _ => (pg_name (i := 0) (show (["power", "prime", "one", "two"] : List Str).Nodup by decide +kernel) rfl (Or.inl rfl) (Or.inr rfl))) (fun _ _ _ _ => pif_nil) (fun _ _ _ _ => (pe_op op_mod (pe_op op_sub (pcall D_number_at G_number_at hr (pa_cons (pv 2) (pa_cons (pv 0) pa_nil))) (pcall D_number_at G_number_at hr (pa_cons (pv 3) (pa_cons (pv 0) pa_nil)))) (pv 1)))) pa_nil))))), ?_⟩
  refine ⟨_, rfl, a, _, rfl, .inl hSa, _, rfl, b, _, rfl, .inl hSb, _, _, rfl, ?_⟩
  have hL : (if (((ms.map V.int).length : Nat) : Int) > (((ns.map V.int).length : Nat) : Int) then (((ms.map V.int).length : Nat) : Int) else (((ns.map V.int).length : Nat) : Int)) = ((max ns.length ms.length : Nat) : Int) := by
    rw [List.length_map, List.length_map]
    split <;> omega
  rw [hL]
  refine ⟨_, rfl, _, rfl, (by omega), (by omega), fun D hD => ?_⟩
  have eN : (((max ns.length ms.length : Nat) : Int)).toNat = max ns.length ms.length := by omega
  rw [eN]
  refine comp_all (xs := rangeV 0 (max ns.length ms.length)) hD (by rw [rangeV_length]; exact Nat.le_of_lt (small1000 (by omega))) (fun x y => ∃ k : Nat, x = .int (0 + (k : Int)) ∧ y = .int ((ns.getD k 0 - ms.getD k 0) % p)) itr_go ?_ ?_
  · intro x H1 R hx hs z
    obtain ⟨i, hi, rfl⟩ := rangeV_mem hx
    have ei : (0 + (i : Int)).toNat = i := by omega
    refine ⟨_, rfl, _, rfl, a, ns, _, rfl, hs.seq hSa, (by omega), _, rfl, _, rfl, b, ms, _, rfl, hs.seq hSb, (by omega), _, _, rfl, rfl, _, rfl, _, _, rfl, rfl, (show (0 : Int) < p by omega), ?_⟩
    rw [ei]
    exact z _ _ (Same.refl _) ⟨i, rfl, rfl⟩
  · intro ys H1 hF hs hDy
    have hys : ys = ((List.range (max ns.length ms.length)).map fun k => (ns.getD k 0 - ms.getD k 0) % p).map V.int := by
      rw [List.map_map]
      refine Paired.map_eq (g := fun (i : Nat) => V.int (0 + (i : Int))) hF fun i _ y h => ?_
      obtain ⟨k, e, e2⟩ := h
      have ek : k = i := by
        injection e with e
        omega
      rw [e2, ek]
      rfl
    subst hys
    exact ⟨D, _, rfl, SqL.of hDy, fun r hr' => q r _ (hs.trans (same_new hr' _)) upd_same (hs.free hr')⟩
abbrev s_multiple_of : Stmt := top 26
theorem sc_multiple_of : FnScope ["prime", "row", "factor"] ["prime", "row", "factor"] (defScope s_multiple_of) := ⟨rfl, rfl, rfl, by decide +kernel, rfl, by decide +kernel, by decide +kernel⟩
def spMultiple (K : PySem.W.Frag) : Sp := fun vs H Q _ => ∃ (p : Int) (a : Addr) (ns : List Int) (c : Int), vs = [.int p, .ref a, .int c] ∧ 0 < p ∧ p ≤ 1000000 ∧ SqL K H a (ns.map V.int) ∧ (∀ x ∈ ns, 0 ≤ x ∧ x < p) ∧ ns.length ≤ 500 ∧
  ∀ r H', Same H H' → H' r = some (.lst ((mulC p c ns).map V.int)) → H r = none → Q (.ref r) H'
theorem ok_multiple_of {n : Nat} {f ft : Addr} {fd td : FuncData} (F : Fun K "multiple_of" "multiple_of" s_multiple_of f fd) (T : Txt K mg) (D_trimmed : Df K mg "trimmed" ft td ["numbers"]) (G_trimmed : FnOk P w K mg base CX0 n ft td ["numbers"] (spTrim K)) :
    FnOk P w K mg base CX0 (n + 1) f fd ["prime", "row", "factor"] (spMultiple K) := by
  refine F.ok sc_multiple_of (fun vs H Q E h => ?_) (fun cdv A outer s H vs Q E hr h => ?_)
  · obtain ⟨p, a, ns, c, rfl, _⟩ := h
    rfl
  obtain ⟨p, a, ns, c, rfl, hp0, hpm, hS, hb, hl, q⟩ := h
  refine ⟨_, (pss_one (ps_ret (pcall D_trimmed G_trimmed hr (pa_cons (pe_comp (N' := ["number", "prime", "factor"]) (js := [none, some 0, some 2]) (compOk_of rfl) rfl (pi_list (pv 1)) (fun _ _ _ _ => (pg_name (i := 0) (show (["number", "prime", "factor"] : List Str).Nodup by decide +kernel) rfl (Or.inl rfl) (Or.inr rfl))) (fun _ _ _ _ => pif_nil) (fun _ _ _ _ => (pe_op op_mod (pe_op op_mul (pv 0) (pv 2)) (pv 1)))) pa_nil)))), ?_⟩
  refine ⟨_, rfl, a, rfl, ⟨_, hS⟩, fun D hD => ?_⟩
  refine comp_all (xs := ns.map V.int) hD (by rw [List.length_map]; exact Nat.le_of_lt (small1000 (by omega))) (fun x y => ∃ v : Int, x = .int v ∧ y = .int (v * c % p)) (itl_go hS) ?_ ?_
  · intro x H1 R hx hs z
    obtain ⟨v, hv, rfl⟩ := List.mem_map.mp hx
    have hvb := hb v hv
    exact ⟨_, rfl, _, rfl, _, _, rfl, rfl, .inl ⟨by omega, by omega⟩, _, rfl, _, _, rfl, rfl, hp0, z _ _ (Same.refl _) ⟨v, rfl, rfl⟩⟩
  · intro ys H1 hF hs hDy
    have hys : ys = (ns.map fun x => x * c % p).map V.int := by
      rw [List.map_map]
      refine Paired.map_eq (g := V.int) hF fun i _ y h => ?_
      obtain ⟨v, e, e2⟩ := h
      cases e
      exact e2
    subst hys
    exact ⟨D, _, rfl, SqL.of hDy, fun r hr' => q r _ (hs.trans (same_new hr' _)) upd_same (hs.free hr')⟩
def spMulOf (K : PySem.W.Frag) : Sp := fun vs H Q _ => ∃ (p : Int) (a b : Addr) (ns ms : List Int), vs = [.int p, .ref a, .ref b] ∧ 0 < p ∧ p ≤ 1000000 ∧ SqL K H a (ns.map V.int) ∧ SqL K H b (ms.map V.int) ∧ (∀ x ∈ ns, 0 ≤ x ∧ x < p) ∧ ns.length ≤ 500 ∧ ms.length ≤ 500 ∧
  ∀ r H', Same H H' → H' r = some (.lst ((trim (mulOut p ns ms ns.length)).map V.int)) → H r = none → Q (.ref r) H'
abbrev s_product_of : Stmt := top 27
theorem sc_product_of : FnScope ["prime", "one", "two", "sums", "first", "number", "second", "other"] ["prime", "one", "two"] (defScope s_product_of) := ⟨rfl, rfl, rfl, by decide +kernel, rfl, by decide +kernel, by decide +kernel⟩
theorem ok_product_of {n : Nat} {f ft : Addr} {fd td : FuncData} (F : Fun K "product_of" "product_of" s_product_of f fd) (T : Txt K mg) (D_trimmed : Df K mg "trimmed" ft td ["numbers"]) (G_trimmed : FnOk P w K mg base CX0 n ft td ["numbers"] (spTrim K)) : FnOk P w K mg base CX0 (n + 1) f fd ["prime", "one", "two"] (spMulOf K) := by
  refine F.ok sc_product_of (fun vs H Q E h => ?_) (fun cdv A outer s H vs Q E hr h => ?_)
  · obtain ⟨p, a, b, ns, ms, rfl, _⟩ := h
    rfl
  obtain ⟨p, a, b, ns, ms, rfl, hp0, hpm, hSa, hSb, hRa, hla, hlb, q⟩ := h
  have hnl : (ns.map V.int).length = ns.length := List.length_map _
  have hml : (ms.map V.int).length = ms.length := List.length_map _
  refine ⟨_, (pss_cut (ps_set (i := 3) sc_product_of.nd rfl (Or.inl rfl) (pe_op op_rep (pe_lst (pa_cons pe_int pa_nil)) (pe_op op_add (pe_callB call_len_seq rfl T.len bt_len (pa_cons (pv 1) pa_nil)) (pe_callB call_len_seq rfl T.len bt_len (pa_cons (pv 2) pa_nil)))))
    (pss_cons (ps_for PassesOwn.never rfl (pi_enumerate rfl T.enumerate (pa_cons (pv 1) pa_nil)) (pg_tup rfl (pgs_cons (pg_name (i := 4) sc_product_of.nd rfl (Or.inl rfl)) (pgs_cons (pg_name (i := 5) sc_product_of.nd rfl (Or.inl rfl)) pgs_nil))) (pss_one (ps_for PassesOwn.never rfl (pi_enumerate rfl T.enumerate (pa_cons (pv 2) pa_nil)) (pg_tup rfl (pgs_cons (pg_name (i := 6) sc_product_of.nd rfl (Or.inl rfl)) (pgs_cons (pg_name (i := 7) sc_product_of.nd rfl (Or.inl rfl)) pgs_nil))) (pss_one (ps_asg (pe_op op_mod (pe_op op_add (pe_ix ix_list (pv 3) (pe_op op_add (pv 4) (pv 6)) (fun _ _ => rfl)) (pe_op op_mul (pv 5) (pv 7))) (pv 0)) (pg_sub (pv 3) (pe_op op_add (pv 4) (pv 6)) set_list))))))
    (pss_one (ps_ret (pcall D_trimmed G_trimmed hr (pa_cons (pv 3) pa_nil)))))), ?_⟩
  refine ⟨fun σ H' => Same H H' ∧ ∃ p3, H p3 = none ∧ H' p3 = some (.lst ((mulOut p ns ms 0).map V.int)) ∧ σ = [some (.int p), some (.ref a), some (.ref b), some (.ref p3), none, none, none, none], ?_, ?_⟩
  · refine ⟨(by show 1 ≤ sizeLine; decide), fun q1 hq1 => ?_⟩
    have u1 : Same H (upd H q1 (.lst [.int 0])) := same_new hq1 _
    refine ⟨_, rfl, a, _, rfl, .inl (u1.seq hSa), _, rfl, b, _, rfl, .inl (u1.seq hSb), _, _, rfl, rfl, q1, _, [.int 0], rfl, rfl, upd_same, (by omega), (by omega), (by rw [hnl, hml]; exact Nat.le_of_lt (small1000 (by simp; omega))), fun p3 hp3 => ?_⟩
    refine ⟨u1.trans (same_new hp3 _), p3, u1.free hp3, ?_, rfl⟩
    rw [upd_same, rep_zero, hnl, hml, mulOut, show ((ns.length : Int) + (ms.length : Int)).toNat = ns.length + ms.length by omega]
  rintro σ H1 ⟨hs1, p3, hp3, h3, rfl⟩
  refine ⟨_, rfl, a, _, rfl, hs1.seq hSa, for_enum (xs := ns.map V.int) (fun i σ H' => Same H H' ∧ H' p3 = some (.lst ((mulOut p ns ms i).map V.int)) ∧ ∃ x4 x5 x6 x7, σ = [some (.int p), some (.ref a), some (.ref b), some (.ref p3), x4, x5, x6, x7]) ⟨hs1, h3, _, _, _, _, rfl⟩ (fun i σ H' _ h => h.1.seq hSa) ?_ ?_⟩
  · rintro i x t σ H2 hx ht ⟨hs2, h32, x4, x5, x6, x7, rfl⟩
    obtain ⟨v, rfl, hv⟩ := int_at hx
    have hi : i < ns.length := (List.getElem?_eq_some_iff.mp hv).1
    have hvb := hRa v (List.mem_of_getElem? hv)
    have s3 : Same H2 (upd H2 t (.tup [.int i, .int v])) := same_new ht _
    refine ⟨t, _, rfl, SqT.of upd_same, rfl, _, _, rfl, _, _, rfl, rfl, ?_⟩
    refine ⟨_, rfl, b, _, rfl, (hs2.trans s3).seq hSb, for_enum (xs := ms.map V.int) (fun j σ H' => Same H H' ∧ H' p3 = some (.lst ((mulIn p v ms i j (mulOut p ns ms i)).map V.int)) ∧ ∃ x6 x7, σ = [some (.int p), some (.ref a), some (.ref b), some (.ref p3), some (.int i), some (.int v), x6, x7])
      ⟨hs2.trans s3, s3 _ _ h32, _, _, rfl⟩ (fun j σ H' _ h => h.1.seq hSb) ?_ ?_⟩
    · rintro j x2 t2 σ H4 hx2 ht2 ⟨hs4, h34, y6, y7, rfl⟩
      obtain ⟨v2, rfl, hv2⟩ := int_at hx2
      have hj : j < ms.length := (List.getElem?_eq_some_iff.mp hv2).1
      have s5 : Same H4 (upd H4 t2 (.tup [.int j, .int v2])) := same_new ht2 _
      have h35 := s5 _ _ h34
      have hlen : (mulIn p v ms i j (mulOut p ns ms i)).length = ns.length + ms.length := by rw [mulIn_length, mulOut_length]
      refine ⟨t2, _, rfl, SqT.of upd_same, rfl, _, _, rfl, _, _, rfl, rfl, ?_⟩
      refine ⟨_, rfl, _, rfl, _, rfl, _, _, rfl, rfl, p3, _, _, _, rfl, rfl, SqL.of h35, at_sum (by omega), _, rfl, _, rfl, _, _, rfl, rfl, .inl ⟨by omega, by omega⟩, _, _, rfl, rfl, _, rfl, _, _, rfl, rfl, (show (0 : Int) < p by omega),
        _, rfl, _, rfl, _, rfl, _, _, rfl, rfl, p3, _, _, _, rfl, rfl, h35, ix_some (by rw [List.length_map]; omega), (hs4.trans s5).upd hp3 _, ?_, _, _, rfl⟩
      rw [upd_same, mulIn, get_at hv2, List.map_set]
    · rintro σ H6 ⟨hs6, h36, y6, y7, rfl⟩
      refine ⟨hs6, ?_, _, _, _, _, rfl⟩
      rw [mulOut, get_at hv, ← hml]
      exact h36
  · rintro σ H7 ⟨hs7, h37, x4, x5, x6, x7, rfl⟩
    rw [hnl] at h37
    exact ⟨_, rfl, p3, _, rfl, SqL.of h37, fun r hr' => q r _ (hs7.trans (same_new hr' _)) upd_same (hs7.free hr')⟩
abbrev s_worth_of : Stmt := top 28
theorem sc_worth_of : FnScope ["prime", "numbers", "spot", "total", "number"] ["prime", "numbers", "spot"] (defScope s_worth_of) := ⟨rfl, rfl, rfl, by decide +kernel, rfl, by decide +kernel, by decide +kernel⟩
theorem ok_worth_of {n : Nat} {f : Addr} {fd : FuncData} (F : Fun K "worth_of" "worth_of" s_worth_of f fd) (T : Txt K mg) :
    FnOk P w K mg base CX0 (n + 1) f fd ["prime", "numbers", "spot"] (spValue K) := by
  refine F.ok sc_worth_of (fun vs H Q E h => ?_) (fun cdv A outer s H vs Q E hr h => ?_)
  · obtain ⟨p, a, ns, s, rfl, _⟩ := h
    rfl
  obtain ⟨p, a, ns, z, rfl, hp, hS, hR, z0, z1, q⟩ := h
  have hp0 := hp.lo
  have hpm := hp.hi
  have hnl : (ns.map V.int).length = ns.length := List.length_map _
  refine ⟨_, (pss_cons (ps_set (i := 3) sc_worth_of.nd rfl (Or.inl rfl) pe_int)
    (pss_cons (ps_for PassesOwn.never rfl (pi_reversed rfl T.reversed (pa_cons (pv 1) pa_nil)) (pg_name (i := 4) sc_worth_of.nd rfl (Or.inl rfl)) (pss_one (ps_set (i := 3) sc_worth_of.nd rfl (Or.inl rfl) (pe_op op_mod (pe_op op_add (pe_op op_mul (pv 3) (pv 2)) (pv 4)) (pv 0)))))
    (pss_one (ps_ret (pv 3))))), ?_⟩
  refine ⟨_, rfl, a, _, rfl, hS, for_rev (xs := ns.map V.int) (fun i σ H' => H' = H ∧ ∃ x, σ = [some (.int p), some (.ref a), some (.int z), some (.int (ev z (ns.drop (ns.length - i)) % p)), x]) ⟨rfl, none, ?_⟩ (fun i σ H' _ h => h.1 ▸ hS) ?_ ?_⟩
  · rw [Nat.sub_zero, List.drop_length]
    rfl
  · rintro i x σ H' hi hx ⟨rfl, x0, rfl⟩
    rw [hnl] at hi hx
    obtain ⟨v, rfl, hv⟩ := int_at hx
    have e0 := Int.emod_nonneg (ev z (ns.drop (ns.length - i))) (show p ≠ 0 by omega)
    have e1 := Int.emod_lt_of_pos (ev z (ns.drop (ns.length - i))) (show 0 < p by omega)
    refine ⟨_, rfl, _, rfl, _, _, rfl, rfl, .inl ⟨by omega, by omega⟩, _, rfl, _, _, rfl, rfl, _, rfl, _, _, rfl, rfl, (show (0 : Int) < p by omega), rfl, some (.int v), ?_⟩
    have ed := ev_drop z ns (ns.length - 1 - i) v hv
    rw [show ns.length - 1 - i + 1 = ns.length - i by omega] at ed
    have eh := horner (p := p) (s := z) (a := v) (t := ev z (ns.drop (ns.length - i)) % p) rfl
    rw [← ed] at eh
    rw [show ns.length - (i + 1) = ns.length - 1 - i by omega, ← eh]
    rfl
  · rintro σ H' ⟨rfl, x, rfl⟩
    rw [hnl, Nat.sub_self, List.drop_zero]
    exact ⟨_, rfl, q⟩
abbrev s_nought_at : Stmt := top 23
theorem sc_nought_at : FnScope ["prime", "spot"] ["prime", "spot"] (defScope s_nought_at) := ⟨rfl, rfl, rfl, by decide +kernel, rfl, by decide +kernel, by decide +kernel⟩
def spNought : Sp := fun vs H Q _ => ∃ p z : Int, vs = [.int p, .int z] ∧ 0 < p ∧ ∀ r, H r = none → Q (.ref r) (upd H r (.lst (([-z % p, 1] : List Int).map V.int)))
theorem ok_nought_at {n : Nat} {f : Addr} {fd : FuncData} (F : Fun K "nought_at" "nought_at" s_nought_at f fd) (T : Txt K mg) : FnOk P w K mg base CX0 (n + 1) f fd ["prime", "spot"] spNought := by
  refine F.ok sc_nought_at (fun vs H Q E h => ?_) (fun cdv A outer s H vs Q E hr h => ?_)
  · obtain ⟨p, z, rfl, _⟩ := h
    rfl
  obtain ⟨p, z, rfl, hp, q⟩ := h
  refine ⟨_, (pss_one (ps_ret (pe_lst (pa_cons (pe_op op_mod (pe_un un_neg (pv 1)) (pv 0)) (pa_cons pe_int pa_nil))))), ?_⟩
  exact ⟨_, rfl, _, rfl, _, rfl, _, _, rfl, rfl, hp, (by show 2 ≤ sizeLine; decide), q⟩
theorem ix_nat {n i : Nat} (h : i < n) : ixN n (i : Int) = some i := by
  unfold ixN
  rw [if_pos (by omega), if_pos (by omega)]
  congr 1
abbrev s_parts_of : Stmt := top 34
theorem sc_parts_of : FnScope ["prime", "one", "two", "factor", "end", "rest", "quotient", "power", "number", "place", "other"] ["prime", "one", "two"] (defScope s_parts_of) := ⟨rfl, rfl, rfl, by decide +kernel, rfl, by decide +kernel, by decide +kernel⟩
def spParts (K : PySem.W.Frag) : Sp := fun vs H Q _ => ∃ (p : Int) (a b : Addr) (ns ms : List Int), vs = [.int p, .ref a, .ref b] ∧ Pr p ∧ SqL K H a (ns.map V.int) ∧ SqL K H b (ms.map V.int) ∧ Row p ns ∧ Row p ms ∧ ms ≠ [] ∧ ns.length ≤ 400 ∧ ms.length ≤ 400 ∧
  ∀ t r1 r2 (qs rs : List Int) H', Same H H' → H' t = some (.tup [.ref r1, .ref r2]) → H' r1 = some (.lst (qs.map V.int)) → H' r2 = some (.lst (rs.map V.int)) → Row p qs → Row p rs → rs.length < ms.length → qs.length = ns.length + 1 - ms.length →
    Mth.Eq p (cf ns) (fun k => cm qs (cf ms) k + cf rs k) → H r1 = none → H r2 = none → Q (.ref t) H'
theorem ok_parts_of {n : Nat} {f f1 f2 : Addr} {fd d1 d2 : FuncData} (F : Fun K "parts_of" "parts_of" s_parts_of f fd) (T : Txt K mg) (D_inverse_of : Df K mg "inverse_of" f1 d1 ["prime", "number"]) (G_inverse_of : FnOk P w K mg base CX0 n f1 d1 ["prime", "number"] spInvOf)
    (D_trimmed : Df K mg "trimmed" f2 d2 ["numbers"]) (G_trimmed : FnOk P w K mg base CX0 n f2 d2 ["numbers"] (spTrim K)) :
    FnOk P w K mg base CX0 (n + 1) f fd ["prime", "one", "two"] (spParts K) := by
  refine F.ok sc_parts_of (fun vs H Q E h => ?_) (fun cdv A outer s H vs Q E hr h => ?_)
  · obtain ⟨p, a, b, ns, ms, rfl, _⟩ := h
    rfl
  obtain ⟨p, a, b, ns, ms, rfl, hp, hSa, hSb, hRa, hRb, hne, hla, hlb, q⟩ := h
  have hp0 := hp.lo
  have hpm := hp.hi
  have hnl : (ns.map V.int).length = ns.length := List.length_map _
  have hml : (ms.map V.int).length = ms.length := List.length_map _
  have hm0 : 0 < ms.length := List.length_pos_iff.mpr hne
  have ht := row_top hRb hne
  refine ⟨_, (pss_cons (ps_set (i := 3) sc_parts_of.nd rfl (Or.inl rfl) (pcall D_inverse_of G_inverse_of hr (pa_cons (pv 0) (pa_cons (pe_ix ix_list (pv 2) (pe_un un_neg pe_int) (fun _ _ => rfl)) pa_nil))))
    (pss_cons (ps_set (i := 4) sc_parts_of.nd rfl (Or.inl rfl) (pe_op op_sub (pe_callB call_len_seq rfl T.len bt_len (pa_cons (pv 2) pa_nil)) pe_int))
    (pss_cons (ps_set (i := 5) sc_parts_of.nd rfl (Or.inl rfl) (pe_callTy call_list_of rfl T.list bt_list (pa_cons (pv 1) pa_nil)))
    (pss_cut (ps_set (i := 6) sc_parts_of.nd rfl (Or.inl rfl) (pe_op op_rep (pe_lst (pa_cons pe_int pa_nil)) (pe_op op_sub (pe_callB call_len_seq rfl T.len bt_len (pa_cons (pv 1) pa_nil)) (pv 4))))
    (pss_cons (ps_for PassesOwn.never rfl (pi_range3 rfl T.range (pa_cons (pe_op op_sub (pe_callB call_len_seq rfl T.len bt_len (pa_cons (pv 1) pa_nil)) (pe_callB call_len_seq rfl T.len bt_len (pa_cons (pv 2) pa_nil))) (pa_cons (pe_un un_neg pe_int) (pa_cons (pe_un un_neg pe_int) pa_nil)))) (pg_name (i := 7) sc_parts_of.nd rfl (Or.inl rfl)) (pss_cut (ps_set (i := 8) sc_parts_of.nd rfl (Or.inl rfl) (pe_op op_mod (pe_op op_mul (pe_ix ix_list (pv 5) (pe_op op_add (pv 7) (pv 4)) (fun _ _ => rfl)) (pv 3)) (pv 0)))
    (pss_cons (ps_asg (pv 8) (pg_sub (pv 6) (pv 7) set_list))
    (pss_one (ps_for PassesOwn.never rfl (pi_enumerate rfl T.enumerate (pa_cons (pv 2) pa_nil)) (pg_tup rfl (pgs_cons (pg_name (i := 9) sc_parts_of.nd rfl (Or.inl rfl)) (pgs_cons (pg_name (i := 10) sc_parts_of.nd rfl (Or.inl rfl)) pgs_nil))) (pss_one (ps_asg (pe_op op_mod (pe_op op_sub (pe_ix ix_list (pv 5) (pe_op op_add (pv 7) (pv 9)) (fun _ _ => rfl)) (pe_op op_mul (pv 8) (pv 10))) (pv 0)) (pg_sub (pv 5) (pe_op op_add (pv 7) (pv 9)) set_list))))))))
    (pss_one (ps_ret (pe_tup (pa_cons (pv 6) (pa_cons (pcall D_trimmed G_trimmed hr (pa_cons (pv 5) pa_nil)) pa_nil)))))))))), ?_⟩
  refine ⟨_, rfl, _, rfl, _, rfl, b, _, _, _, rfl, rfl, hSb, at_last hm0, p, _, rfl, hp, ht.1, ht.2, fun g g0 g1 hg => ?_⟩
  refine ⟨_, rfl, b, _, rfl, .inl hSb, _, _, rfl, rfl, ?_⟩
  refine ⟨_, rfl, a, _, rfl, .inl hSa, fun rr hrr => ?_⟩
  have s1 := same_new hrr (.lst (ns.map V.int))
  refine ⟨fun σ H' => Same H H' ∧ ∃ qa, rr ≠ qa ∧ H qa = none ∧ H' rr = some (.lst (ns.map V.int)) ∧ H' qa = some (.lst ((List.replicate (ns.length + 1 - ms.length) (0 : Int)).map V.int)) ∧ σ = [some (.int p), some (.ref a), some (.ref b), some (.int g), some (.int ((ms.length : Int) - 1)), some (.ref rr), some (.ref qa), none, none, none, none], ?_, ?_⟩
  · refine ⟨(by show 1 ≤ sizeLine; decide), fun q1 hq1 => ?_⟩
    have s2 := same_new hq1 (.lst [V.int 0])
    have en : ((((ns.map V.int).length : Nat) : Int) - ((((ms.map V.int).length : Nat) : Int) - 1)).toNat = ns.length + 1 - ms.length := by rw [hnl, hml]; omega
    refine ⟨_, rfl, a, _, rfl, .inl ((s1.trans s2).seq hSa), _, rfl, _, _, rfl, rfl, q1, _, [.int 0], rfl, rfl, upd_same, (by omega), (by omega), (by rw [en]; exact Nat.le_of_lt (small1000 (by simp; omega))), fun qa hqa => ?_⟩
    have s3 := same_new hqa (.lst (List.replicate ((((ns.map V.int).length : Nat) : Int) - ((((ms.map V.int).length : Nat) : Int) - 1)).toNat [V.int 0]).flatten)
    refine ⟨(s1.trans s2).trans s3, qa, ?_, (s1.trans s2).free hqa, s3 _ _ (s2 _ _ upd_same), ?_, ?_⟩
    · exact ne_of_none (s2 _ _ upd_same) hqa
    · rw [upd_same, en, rep_zero]
    · rw [← hml]
      rfl
  rintro σ H1 ⟨hs1, qa, hrq, hqa, hr1, hq1, rfl⟩
  have hr0 : H rr = none := hrr
  have hN : (((ns.map V.int).length : Int) - ((ms.map V.int).length : Int) - -1).toNat = ns.length + 1 - ms.length := by rw [hnl, hml]; omega
  refine ⟨_, rfl, a, _, rfl, .inl (hs1.seq hSa), _, rfl, b, _, rfl, .inl (hs1.seq hSb), _, _, rfl, rfl, _, rfl, _, rfl, _, _, rfl, ⟨by omega, by omega, by omega, by omega⟩, ?_⟩
  rw [hN]
  refine for_down (fun i σ H' => Same H H' ∧ ∃ (RS QS : List Int) (x7 x8 x9 x10 : Option V), σ = [some (.int p), some (.ref a), some (.ref b), some (.int g), some (.int ((ms.length : Int) - 1)), some (.ref rr), some (.ref qa), x7, x8, x9, x10] ∧ H' rr = some (.lst (RS.map V.int)) ∧ H' qa = some (.lst (QS.map V.int)) ∧ DivAt p ns ms i RS QS)
    ⟨hs1, ns, List.replicate (ns.length + 1 - ms.length) 0, none, none, none, none, rfl, hr1, hq1, DivAt.start (by omega) hRa⟩ ?_ ?_
  · rintro i σ H2 hi ⟨hs2, RS, QS, x7, x8, x9, x10, rfl, hr2, hq2, D⟩
    have hrl := D.rl
    have hql := D.ql
    obtain ⟨pw, hpw, epw⟩ : ∃ pw : Nat, pw + ms.length + i = ns.length ∧ ((ns.map V.int).length : Int) - ((ms.map V.int).length : Int) - (i : Int) = (pw : Int) := ⟨ns.length - ms.length - i, by omega, by rw [hnl, hml]; omega⟩
    rw [epw]
    have eix : ((pw : Int) + ((ms.length : Int) - 1)).toNat = pw + (ms.length - 1) := by omega
    have hat : atI (RS.map V.int) ((pw : Int) + ((ms.length : Int) - 1)) = some (.int (RS.getD (pw + (ms.length - 1)) 0)) := by rw [at_some (by omega) (by omega), eix]
    have hxb := cf_row D.rb (show 0 < p by omega) (pw + (ms.length - 1))
    have hx0 : 0 ≤ RS.getD (pw + (ms.length - 1)) 0 := hxb.1
    have hx1 : RS.getD (pw + (ms.length - 1)) 0 < p := hxb.2
    have v0 := Int.emod_nonneg (RS.getD (pw + (ms.length - 1)) 0 * g) (show p ≠ 0 by omega)
    have v1 := Int.emod_lt_of_pos (RS.getD (pw + (ms.length - 1)) 0 * g) (show 0 < p by omega)
    have hst := D.step hp hRa hRb hne hg (by omega) hpw rfl
    refine ⟨fun σ H' => H2 = H' ∧ σ = [some (.int p), some (.ref a), some (.ref b), some (.int g), some (.int ((ms.length : Int) - 1)), some (.ref rr), some (.ref qa), some (.int (pw : Int)), some (.int (RS.getD (pw + (ms.length - 1)) 0 * g % p)), x9, x10], ?_, ?_⟩
    · exact ⟨_, rfl, _, rfl, _, rfl, _, _, rfl, rfl, rr, _, _, _, rfl, rfl, SqL.of hr2, hat, _, rfl, _, _, rfl, rfl, .inl ⟨by omega, by omega⟩, _, rfl, _, _, rfl, rfl, (show (0 : Int) < p by omega), rfl, rfl⟩
    rintro σ H' ⟨rfl, rfl⟩
    generalize RS.getD (pw + (ms.length - 1)) 0 * g % p = v at v0 v1 hst ⊢
    refine ⟨_, rfl, _, rfl, _, rfl, qa, _, _, _, rfl, rfl, hq2, ix_nat (by rw [List.length_map]; omega), ?_⟩
    have hs3 := hs2.upd hqa (.lst ((QS.map V.int).set pw (.int v)))
    have hq3 : upd H2 qa (.lst ((QS.map V.int).set pw (.int v))) qa = some (.lst ((QS.set pw v).map V.int)) := by rw [upd_same, List.map_set]
    have hr3 : upd H2 qa (.lst ((QS.map V.int).set pw (.int v))) rr = some (.lst (RS.map V.int)) := by rw [upd_ne hrq]; exact hr2
    generalize upd H2 qa (.lst ((QS.map V.int).set pw (.int v))) = H3 at hs3 hq3 hr3 ⊢
    refine ⟨_, rfl, b, _, rfl, hs3.seq hSb, for_enum (xs := ms.map V.int) (fun j σ H' => Same H H' ∧ H' rr = some (.lst ((mulIn p (-v) ms pw j RS).map V.int)) ∧ H' qa = some (.lst ((QS.set pw v).map V.int)) ∧ ∃ x9 x10, σ = [some (.int p), some (.ref a), some (.ref b), some (.int g), some (.int ((ms.length : Int) - 1)), some (.ref rr), some (.ref qa), some (.int pw), some (.int v), x9, x10])
      ⟨hs3, hr3, hq3, _, _, rfl⟩ (fun j σ H' _ h => h.1.seq hSb) ?_ ?_⟩
    · rintro j x t σ H4 hx ht4 ⟨hs4, hr4, hq4, y9, y10, rfl⟩
      obtain ⟨v2, rfl, hv2⟩ := int_at hx
      have hj : j < ms.length := (List.getElem?_eq_some_iff.mp hv2).1
      have s5 : Same H4 (upd H4 t (.tup [.int j, .int v2])) := same_new ht4 _
      have hr5 := s5 _ _ hr4
      have hlen : (mulIn p (-v) ms pw j RS).length = ns.length := by rw [mulIn_length, hrl]
      refine ⟨t, _, rfl, SqT.of upd_same, rfl, _, _, rfl, _, _, rfl, rfl, ?_⟩
      refine ⟨_, rfl, _, rfl, _, rfl, _, _, rfl, rfl, rr, _, _, _, rfl, rfl, SqL.of hr5, at_sum (by omega), _, rfl, _, rfl, _, _, rfl, rfl, .inl ⟨by omega, by omega⟩, _, _, rfl, rfl, _, rfl, _, _, rfl, rfl, (show (0 : Int) < p by omega),
        _, rfl, _, rfl, _, rfl, _, _, rfl, rfl, rr, _, _, _, rfl, rfl, hr5, ix_some (by rw [List.length_map]; omega), (hs4.trans s5).upd hr0 _, ?_, ?_, _, _, rfl⟩
      · rw [upd_same, mulIn, get_at hv2, List.map_set, Int.neg_mul, ← Int.sub_eq_add_neg]
      · rw [upd_ne hrq.symm]
        exact s5 _ _ hq4
    · rintro σ H6 ⟨hs6, hr6, hq6, y9, y10, rfl⟩
      rw [hml] at hr6
      exact ⟨hs6, _, _, _, _, _, _, rfl, hr6, hq6, hst⟩
  · rintro σ H2 ⟨hs2, RS, QS, x7, x8, x9, x10, rfl, hr2, hq2, D⟩
    have hql := D.ql
    rw [← hql] at D
    obtain ⟨d1, d2, d3, d4⟩ := D.done hne
    refine ⟨_, rfl, _, rfl, rr, RS, rfl, SqL.of hr2, fun r2 hr2' => ⟨(by show 2 ≤ sizeLine; decide), fun t ht' => ?_⟩⟩
    have s7 := same_new hr2' (.lst ((trim RS).map V.int))
    have s8 := same_new ht' (.tup [.ref qa, .ref r2])
    exact q t qa r2 QS (trim RS) _ (hs2.trans (s7.trans s8)) upd_same (s8 _ _ (s7 _ _ hq2)) (s8 _ _ upd_same) d1 d2 d3 hql d4 hqa (hs2.free hr2')
def Rws (H : Hp) (as : List Addr) (rows : List (List Int)) : Prop := Paired (fun a row => H a = some (.lst (row.map V.int))) as rows
theorem Rws.same {H H' : Hp} (e : Same H H') : ∀ {as : List Addr} {rows : List (List Int)}, Rws H as rows → Rws H' as rows
  | _, _, .nil => .nil
  | _, _, .cons h t => .cons (e _ _ h) (Rws.same e t)
theorem ints_ne_refs {xs : List Int} {as : List Addr} (h : as ≠ []) : xs.map V.int ≠ as.map V.ref := fun e => by
  cases as with
  | nil => exact h rfl
  | cons a r =>
    cases xs with
    | nil => cases e
    | cons x t =>
      simp only [List.map_cons, List.cons.injEq] at e
      cases e.1
theorem Rws.upd {H : Hp} {R : Addr} {bs : List Addr} {o : HO} (hR : H R = some (.lst (bs.map V.ref))) (hb : bs ≠ []) : ∀ {as : List Addr} {rows : List (List Int)}, Rws H as rows → Rws (L2.upd H R o) as rows
  | _, _, .nil => .nil
  | x :: _, row :: _, .cons h t => .cons (by
      have h' : H x = some (.lst (row.map V.int)) := h
      have : x ≠ R := fun e => by
        rw [e, hR] at h'
        simp only [Option.some.injEq, HO.lst.injEq] at h'
        exact ints_ne_refs hb h'.symm
      show L2.upd H R o x = _
      rw [upd_ne this]
      exact h') (Rws.upd hR hb t)
theorem Rws.snoc {H : Hp} {a : Addr} {row : List Int} (h : H a = some (.lst (row.map V.int))) : ∀ {as : List Addr} {rows : List (List Int)}, Rws H as rows → Rws H (as ++ [a]) (rows ++ [row])
  | _, _, .nil => .cons h .nil
  | _, _, .cons h0 r => .cons h0 (Rws.snoc h r)
theorem Rws.len {H : Hp} {as : List Addr} {rows : List (List Int)} (h : Rws H as rows) : as.length = rows.length := Paired.length h
theorem Rws.get {H : Hp} : ∀ {as : List Addr} {rows : List (List Int)}, Rws H as rows → ∀ (i : Nat), i < rows.length → ∃ a, as[i]? = some a ∧ H a = some (.lst ((rows.getD i []).map V.int))
  | _, _, .nil, i, h => by simp at h
  | a :: _, row :: _, .cons h r, 0, _ => ⟨a, rfl, h⟩
  | _, _, .cons h r, i + 1, e => by
    obtain ⟨a, e1, e2⟩ := Rws.get r i (by simpa using e)
    exact ⟨a, by simpa using e1, by simpa using e2⟩
theorem at_ref {as : List Addr} {i : Nat} {a : Addr} (h : as[i]? = some a) : atI (as.map V.ref) (i : Int) = some (.ref a) := atI_nat (by rw [List.getElem?_map, h]; rfl)
theorem at_lastR {as : List Addr} {a : Addr} (h : as[as.length - 1]? = some a) : atI (as.map V.ref) (-1) = some (.ref a) := by
  have h0 : as ≠ [] := fun e => by rw [e] at h; cases h
  have e : as = as.dropLast ++ [as.getLast h0] := (List.dropLast_concat_getLast h0).symm
  have hg : as.getLast h0 = a := by
    rw [List.getLast_eq_getElem]
    exact (List.getElem?_eq_some_iff.mp h).2
  have q := atI_last (as.dropLast.map V.ref) (V.ref (as.getLast h0))
  rw [hg] at q e
  rw [← q]
  conv => lhs; rw [e]
  rw [List.map_append]
  rfl
theorem take_snoc {α : Type} {xs : List α} {i : Nat} {x : α} (h : xs[i]? = some x) : xs.take (i + 1) = xs.take i ++ [x] := by
  rw [List.take_succ, h]
  rfl
theorem getD_old {rows : List (List Int)} {x : List Int} {j : Nat} (h : j < rows.length) : (rows ++ [x]).getD j [] = rows.getD j [] := by
  rw [List.getD_eq_getElem?_getD, List.getD_eq_getElem?_getD, List.getElem?_append_left h]
theorem getD_new {rows : List (List Int)} {x : List Int} {j : Nat} (h : j = rows.length) : (rows ++ [x]).getD j [] = x := by
  rw [List.getD_eq_getElem?_getD, List.getElem?_append_right (by omega), h, Nat.sub_self]
  rfl
theorem rws_of {H : Hp} : ∀ (rows : List (List Int)) (ys : List V), ys.length = rows.length → (∀ i y, ys[i]? = some y → ∃ r : Addr, y = .ref r ∧ H r = some (.lst ((rows.getD i []).map V.int))) → ∃ cs : List Addr, ys = cs.map V.ref ∧ Rws H cs rows
  | [], [], _, _ => ⟨[], rfl, .nil⟩
  | [], _ :: _, h, _ => by simp at h
  | _ :: _, [], h, _ => by simp at h
  | row :: rows, y :: ys, hl, h => by
    obtain ⟨r, e1, e2⟩ := h 0 y rfl
    obtain ⟨cs, e3, k⟩ := rws_of rows ys (by simpa using hl) fun i z hz => by
      have := h (i + 1) z (by simpa using hz)
      simpa using this
    exact ⟨r :: cs, by rw [e1, e3]; rfl, .cons e2 k⟩
theorem while_n {c : TT} {tb : TS} {D : Ends} {σ : St} {H : Hp} (Pv : Nat → St → Hp → Prop) (h0 : ∃ m, Pv m σ H)
    (hs : ∀ m σ H, Pv m σ H → c σ H fun b H1 => if b = true then ∃ N : St → Hp → Prop, (∀ σ' H', N σ' H' → ∃ m', m' < m ∧ Pv m' σ' H') ∧ tb { D with nx := N, ct := N, bk := D.nx } σ H1 else D.nx σ H1) : tWhile c tb D σ H := ⟨Pv, h0, hs⟩
abbrev s_common_of : Stmt := top 37
theorem sc_common_of : FnScope ["prime", "one", "two", "higher", "lower", "quotient", "taken", "rest", "factor"] ["prime", "one", "two"] (defScope s_common_of) := ⟨rfl, rfl, rfl, by decide +kernel, rfl, by decide +kernel, by decide +kernel⟩
def spCommonOf : Sp := fun vs H Q _ => ∃ (p : Int) (a b : Addr) (ns ms : List Int), vs = [.int p, .ref a, .ref b] ∧ Pr p ∧ H a = some (.lst (ns.map V.int)) ∧ H b = some (.lst (ms.map V.int)) ∧ Row p ns ∧ Row p ms ∧ ns.length ≤ 190 ∧ ms.length ≤ 190 ∧
  ∀ t r0 r1 r2 (g u v : List Int) H', Same H H' → H' t = some (.tup [.ref r0, .ref r1, .ref r2]) → H' r0 = some (.lst (g.map V.int)) → H' r1 = some (.lst (u.map V.int)) → H' r2 = some (.lst (v.map V.int)) → CmRes p ns ms g u v → g.length ≤ 191 → u.length ≤ 191 → v.length ≤ 191 → H r0 = none → H r1 = none → H r2 = none → Q (.ref t) H'
theorem row_at {rows : List (List Int)} {i : Nat} {p : Int} (h : ∀ r ∈ rows, Row p r) (hi : i < rows.length) : Row p (rows.getD i []) := by
  rw [List.getD_eq_getElem?_getD, List.getElem?_eq_getElem hi]
  exact h _ (List.getElem_mem hi)
theorem ok_common_of {n : Nat} {f f1 f2 f3 f4 f5 : Addr} {fd d1 d2 d3 d4 d5 : FuncData} (F : Fun K "common_of" "common_of" s_common_of f fd) (T : Txt K mg) (D_parts_of : Df K mg "parts_of" f1 d1 ["prime", "one", "two"]) (G_parts_of : FnOk P w K mg base CX0 n f1 d1 ["prime", "one", "two"] (spParts K))
    (D_product_of : Df K mg "product_of" f2 d2 ["prime", "one", "two"]) (G_product_of : FnOk P w K mg base CX0 n f2 d2 ["prime", "one", "two"] (spMulOf K))
    (D_difference_of : Df K mg "difference_of" f3 d3 ["prime", "one", "two"]) (G_difference_of : FnOk P w K mg base CX0 n f3 d3 ["prime", "one", "two"] (spDiffOf K))
    (D_inverse_of : Df K mg "inverse_of" f4 d4 ["prime", "number"]) (G_inverse_of : FnOk P w K mg base CX0 n f4 d4 ["prime", "number"] spInvOf)
    (D_multiple_of : Df K mg "multiple_of" f5 d5 ["prime", "row", "factor"]) (G_multiple_of : FnOk P w K mg base CX0 n f5 d5 ["prime", "row", "factor"] (spMultiple K)) :
    FnOk P w K mg base CX0 (n + 1) f fd ["prime", "one", "two"] spCommonOf := by
  refine F.ok sc_common_of (fun vs H Q E h => ?_) (fun cdv A outer s H vs Q E hr h => ?_)
  · obtain ⟨p, a, b, ns, ms, rfl, _⟩ := h
    rfl
  obtain ⟨p, a, b, ns, ms, rfl, hp, hHa, hHb, hRa, hRb, hla, hlb, q⟩ := h
  have hp0 := hp.lo
  have hpm := hp.hi
  refine ⟨_, (pss_cons (ps_set (i := 3) sc_common_of.nd rfl (Or.inl rfl) (pe_lst (pa_cons (pv 1) (pa_cons (pe_lst (pa_cons pe_int pa_nil)) (pa_cons (pe_lst pa_nil) pa_nil)))))
    (pss_cons (ps_set (i := 4) sc_common_of.nd rfl (Or.inl rfl) (pe_lst (pa_cons (pv 2) (pa_cons (pe_lst pa_nil) (pa_cons (pe_lst (pa_cons pe_int pa_nil)) pa_nil)))))
    (pss_cons (ps_while PassesOwn.never (pt_cmpR op_gt (pe_callB call_len_seq rfl T.len bt_len (pa_cons (pe_ix ix_list (pv 4) pe_int (fun _ _ => rfl)) pa_nil)) pe_int (nomark _)) (pss_cons (ps_set (i := 5) sc_common_of.nd rfl (Or.inr rfl) (pe_ix ix_tup (pcall D_parts_of G_parts_of hr (pa_cons (pv 0) (pa_cons (pe_ix ix_list (pv 3) pe_int (fun _ _ => rfl)) (pa_cons (pe_ix ix_list (pv 4) pe_int (fun _ _ => rfl)) pa_nil)))) pe_int (fun _ _ => rfl)))
    (pss_cons (ps_setComp (i := 6) sc_common_of.nd rfl (Or.inl rfl) (N' := ["row", "prime", "quotient"]) (js := [none, some 0, some 5]) (compOk_of rfl) rfl (pi_list (pv 4)) (fun _ _ _ _ => (pg_name (i := 0) (show (["row", "prime", "quotient"] : List Str).Nodup by decide +kernel) rfl (Or.inl rfl) (Or.inr rfl))) (fun _ _ _ _ => pif_nil) (fun _ _ _ _ => (pcall D_product_of G_product_of hr (pa_cons (pv 1) (pa_cons (pv 2) (pa_cons (pv 0) pa_nil))))))
    (pss_cons (ps_setComp (i := 7) sc_common_of.nd rfl (Or.inl rfl) (N' := ["row", "other", "prime"]) (js := [none, none, some 0]) (compOk_of rfl) rfl (pi_zip rfl T.zip (pa_cons (pv 3) (pa_cons (pv 6) pa_nil))) (fun _ _ _ _ => (show PG _ _ (gTup K 2 (gCons (gName 0) (gCons (gName 1) gNil))) from (pg_tup rfl (pgs_cons (pg_name (i := 0) (show (["row", "other", "prime"] : List Str).Nodup by decide +kernel) rfl (Or.inl rfl) (Or.inr rfl)) (pgs_cons (pg_name (i := 1) (show (["row", "other", "prime"] : List Str).Nodup by decide +kernel) rfl (Or.inl rfl) (Or.inr rfl)) pgs_nil))))) (fun _ _ _ _ => pif_nil) (fun _ _ _ _ => (pcall D_difference_of G_difference_of hr (pa_cons (pv 2) (pa_cons (pv 0) (pa_cons (pv 1) pa_nil))))))
    (pss_cons (ps_set (i := 3) sc_common_of.nd rfl (Or.inl rfl) (pv 4))
    (pss_one (ps_set (i := 4) sc_common_of.nd rfl (Or.inl rfl) (pv 7))))))))
    (pss_cons (ps_set (i := 8) sc_common_of.nd rfl (Or.inr rfl) pe_int)
    (pss_cut (ps_if (pt_cmpR op_gt (pe_callB call_len_seq rfl T.len bt_len (pa_cons (pe_ix ix_list (pv 3) pe_int (fun _ _ => rfl)) pa_nil)) pe_int (nomark _)) (pss_one (ps_set (i := 8) sc_common_of.nd rfl (Or.inr rfl) (pcall D_inverse_of G_inverse_of hr (pa_cons (pv 0) (pa_cons (pe_ix ix_list (pe_ix ix_list (pv 3) pe_int (fun _ _ => rfl)) (pe_un un_neg pe_int) (fun _ _ => rfl)) pa_nil))))) pss_nil)
    (pss_one (ps_ret (pe_callTy call_tuple_of rfl T.tuple bt_tuple (pa_cons (pe_comp (N' := ["row", "prime", "factor"]) (js := [none, some 0, some 8]) (compOk_of rfl) rfl (pi_list (pv 3)) (fun _ _ _ _ => (pg_name (i := 0) (show (["row", "prime", "factor"] : List Str).Nodup by decide +kernel) rfl (Or.inl rfl) (Or.inr rfl))) (fun _ _ _ _ => pif_nil) (fun _ _ _ _ => (pcall D_multiple_of G_multiple_of hr (pa_cons (pv 1) (pa_cons (pv 0) (pa_cons (pv 2) pa_nil)))))) pa_nil))))))))), ?_⟩
  refine ⟨_, rfl, (by show 1 ≤ sizeLine; decide), fun o1 ho1 => ⟨(by show 0 ≤ sizeLine; decide), fun z1 hz1 => ⟨(by show 3 ≤ sizeLine; decide), fun hi hhi => ?_⟩⟩⟩
  have s1 := same_new ho1 (.lst [V.int 1])
  have s2 := same_new hz1 (.lst ([] : List V))
  have s3 := same_new hhi (.lst [V.ref a, V.ref o1, V.ref z1])
  refine ⟨_, rfl, (by show 0 ≤ sizeLine; decide), fun z2 hz2 => ⟨(by show 1 ≤ sizeLine; decide), fun o2 ho2 => ⟨(by show 3 ≤ sizeLine; decide), fun lo hlo => ?_⟩⟩⟩
  have s4 := same_new hz2 (.lst ([] : List V))
  have s5 := same_new ho2 (.lst [V.int 1])
  have s6 := same_new hlo (.lst [V.ref b, V.ref z2, V.ref o2])
  have t3 := (s4.trans s5).trans s6
  have t6 := ((s1.trans s2).trans s3).trans t3
  refine while_n (fun m σ H' => Same H H' ∧ ∃ (hi lo : Addr) (as bs : List Addr) (h0 h1 h2 l0 l1 l2 : List Int) (x5 x6 x7 : Option V), m = l0.length ∧ σ = [some (.int p), some (.ref a), some (.ref b), some (.ref hi), some (.ref lo), x5, x6, x7, none] ∧ H' hi = some (.lst (as.map V.ref)) ∧ H' lo = some (.lst (bs.map V.ref)) ∧ Rws H' as [h0, h1, h2] ∧ Rws H' bs [l0, l1, l2] ∧ CmAt p ns ms 190 h0 h1 h2 l0 l1 l2)
    ⟨ms.length, t6, hi, lo, [a, o1, z1], [b, z2, o2], ns, [1], [], ms, [], [1], none, none, none, rfl, rfl, t3 _ _ upd_same, upd_same, .cons (t6 _ _ hHa) (.cons (t3 _ _ (s3 _ _ (s2 _ _ upd_same))) (.cons (t3 _ _ (s3 _ _ upd_same)) .nil)), .cons (t6 _ _ hHb) (.cons (s6 _ _ (s5 _ _ upd_same)) (.cons (s6 _ _ upd_same) .nil)), CmAt.start hp hRa hRb hla hlb⟩ ?_
  clear hhi hlo s3 s6 t3 t6
  rintro m σ H1 ⟨hs1, hi, lo, as, bs, h0, h1, h2, l0, l1, l2, x5, x6, x7, rfl, rfl, hHi, hLo, hRh, hRl, C⟩
  obtain ⟨A0, eA0, hA0⟩ := hRh.get 0 (Nat.zero_lt_succ _)
  obtain ⟨B0, eB0, hB0⟩ := hRl.get 0 (Nat.zero_lt_succ _)
  have hA0' : H1 A0 = some (.lst (h0.map V.int)) := hA0
  have hB0' : H1 B0 = some (.lst (l0.map V.int)) := hB0
  have c0 := C.b0
  have c1 := C.b1
  have c2 := C.b2
  have c3 := C.b3
  have c4 := C.b4
  have c5 := C.b5
  refine ⟨_, rfl, lo, _, _, _, rfl, rfl, SqL.of hLo, at_ref eB0, B0, _, rfl, .inl (SqL.of hB0'), _, _, rfl, rfl, _, rfl, ?_⟩
  rw [List.length_map]
  refine ite2 (fun d => ?_) (fun d => ?_)
  · have d' : (0 : Int) < (l0.length : Int) := of_decide_eq_true d
    have hne : l0 ≠ [] := fun e => by rw [e] at d'; simp at d'
    refine ⟨fun σ' H' => ∃ m', m' < l0.length ∧ (Same H H' ∧ ∃ (hi lo : Addr) (as bs : List Addr) (h0 h1 h2 l0 l1 l2 : List Int) (x5 x6 x7 : Option V), m' = l0.length ∧ σ' = [some (.int p), some (.ref a), some (.ref b), some (.ref hi), some (.ref lo), x5, x6, x7, none] ∧ H' hi = some (.lst (as.map V.ref)) ∧ H' lo = some (.lst (bs.map V.ref)) ∧ Rws H' as [h0, h1, h2] ∧ Rws H' bs [l0, l1, l2] ∧ CmAt p ns ms 190 h0 h1 h2 l0 l1 l2), fun _ _ h => h, ?_⟩
    refine ⟨_, rfl, _, rfl, hi, _, _, _, rfl, rfl, SqL.of hHi, at_ref eA0, _, rfl, lo, _, _, _, rfl, rfl, SqL.of hLo, at_ref eB0, p, A0, B0, h0, l0, rfl, hp, SqL.of hA0', SqL.of hB0', C.rh0, C.rl0, hne, (by omega), (by omega), fun t r1 r2 qs rs H2 e1 e2 e3 e4 e5 e6 e7 e8 e9 _ _ => ?_⟩
    refine ⟨t, _, _, _, rfl, rfl, SqT.of e2, rfl, ?_⟩
    obtain ⟨ers, C'⟩ := C.step hp hne e6 e7 e8 e9
    have hLo2 := e1 _ _ hLo
    have hHi2 := e1 _ _ hHi
    have hRl2 := hRl.same e1
    have hRh2 := hRh.same e1
    have hbl := hRl.len
    have hal := hRh.len
    have hrowsL : ∀ r ∈ [l0, l1, l2], Row p r := fun r hr => by
      simp only [List.mem_cons, List.not_mem_nil, or_false] at hr
      rcases hr with rfl | rfl | rfl
      · exact C.rl0
      · exact C.rl1
      · exact C.rl2
    have hlenL : ∀ r ∈ [l0, l1, l2], r.length ≤ 191 := fun r hr => by
      simp only [List.mem_cons, List.not_mem_nil, or_false] at hr
      rcases hr with rfl | rfl | rfl <;> omega
    have hlenH : ∀ r ∈ [h0, h1, h2], r.length ≤ 191 := fun r hr => by
      simp only [List.mem_cons, List.not_mem_nil, or_false] at hr
      rcases hr with rfl | rfl | rfl <;> omega
    have getM : ∀ (rows : List (List Int)) i, i < rows.length → rows.getD i [] ∈ rows := fun rows i h => by
      rw [List.getD_eq_getElem?_getD, List.getElem?_eq_getElem h]
      exact List.getElem_mem h
    refine ⟨_, rfl, lo, rfl, ⟨_, SqL.of hLo2⟩, fun D hD => ?_⟩
    have eT : ∀ i, i < 3 → ([mulR p qs l0, mulR p qs l1, mulR p qs l2] : List (List Int)).getD i [] = mulR p qs ([l0, l1, l2].getD i []) := fun i h => by
      have : i = 0 ∨ i = 1 ∨ i = 2 := by omega
      rcases this with rfl | rfl | rfl <;> rfl
    have eR : ∀ i, i < 3 → ([subR p h0 (mulR p qs l0), subR p h1 (mulR p qs l1), subR p h2 (mulR p qs l2)] : List (List Int)).getD i [] = subR p ([h0, h1, h2].getD i []) (([mulR p qs l0, mulR p qs l1, mulR p qs l2] : List (List Int)).getD i []) := fun i h => by
      have : i = 0 ∨ i = 1 ∨ i = 2 := by omega
      rcases this with rfl | rfl | rfl <;> rfl
    have hqs : qs.length ≤ 191 := by omega
    refine comp_at 3 hD (by decide) (fun τ => ∃ x, τ = [x, some (.int p), some (.ref r1)]) (fun i H' y => ∃ r : Addr, y = .ref r ∧ r ≠ D ∧ H' r = some (.lst ((([mulR p qs l0, mulR p qs l1, mulR p qs l2] : List (List Int)).getD i []).map V.int))) ⟨_, rfl⟩ ?_ ?_ ?_ ?_ ?_ ?_
    · rintro i G G' y hs ⟨r, e, hn, h⟩
      exact ⟨r, e, hn, hs _ _ h⟩
    · rintro i G ys zs y hD' ⟨r, e, hn, h⟩
      exact ⟨r, e, hn, by rw [upd_ne hn]; exact h⟩
    · intro i G hi' hs
      obtain ⟨B, eB, hB⟩ := hRl2.get i hi'
      exact ⟨_, _, SqL.of (hs _ _ hLo2), by rw [List.getElem?_map, eB]; rfl⟩
    · intro G hs
      exact ⟨_, SqL.of (hs _ _ hLo2), by rw [List.length_map, hbl]; exact Nat.le_refl 3⟩
    · rintro i τ G x G2 zs R1 R2 hi' ⟨x0, rfl⟩ hs hDG ⟨rfl, hy⟩ z
      obtain ⟨B, eB, hB⟩ := hRl2.get i hi'
      have ex := hy _ (SqL.of (hs _ _ hLo2))
      rw [List.getElem?_map, eB] at ex
      have ex' : x = .ref B := by simpa using ex.symm
      subst ex'
      refine g0_yes ⟨_, rfl, _, rfl, _, rfl, p, r1, B, qs, [l0, l1, l2].getD i [], rfl, (by omega), hpm, SqL.of (hs _ _ e3), SqL.of (hs _ _ hB), e5.all, (by omega), ?_, fun r G3 hs3 hr3 hn3 => ?_⟩
      · have := hlenL _ (getM [l0, l1, l2] i hi')
        omega
      · refine z _ _ _ ⟨_, rfl⟩ hs3 ⟨r, rfl, (ne_of_none hDG hn3).symm, ?_⟩
        rw [hr3, eT i hi']
        rfl
    intro ys H3 hyl hF hs3 hD3
    obtain ⟨cs, rfl, hRt⟩ := rws_of (H := H3) [mulR p qs l0, mulR p qs l1, mulR p qs l2] ys hyl fun i y e => by
      obtain ⟨r, a1, _, a2⟩ := hF i y e
      exact ⟨r, a1, a2⟩
    have hLo3 := hs3 _ _ hLo2
    have hHi3 := hs3 _ _ hHi2
    have hRh3 := hRh2.same hs3
    have hRl3 := hRl2.same hs3
    have hcl := hRt.len
    refine ⟨_, rfl, _, rfl, hi, D, _, _, rfl, SqL.of hHi3, SqL.of hD3, fun D2 hD2 => ?_⟩
    refine comp_at 3 hD2 (by decide) (fun τ => ∃ x y, τ = [x, y, some (.int p)]) (fun i H' y => ∃ r : Addr, y = .ref r ∧ r ≠ D2 ∧ H' r = some (.lst ((([subR p h0 (mulR p qs l0), subR p h1 (mulR p qs l1), subR p h2 (mulR p qs l2)] : List (List Int)).getD i []).map V.int))) ⟨_, _, rfl⟩ ?_ ?_ ?_ ?_ ?_ ?_
    · rintro i G G' y hs ⟨r, e, hn, h⟩
      exact ⟨r, e, hn, hs _ _ h⟩
    · rintro i G ys zs y hD' ⟨r, e, hn, h⟩
      exact ⟨r, e, hn, by rw [upd_ne hn]; exact h⟩
    · intro i G hi' hs
      obtain ⟨A, eA, hA⟩ := hRh3.get i hi'
      obtain ⟨B, eB, hB⟩ := hRt.get i hi'
      exact ⟨_, _, _, _, SqL.of (hs _ _ hHi3), SqL.of (hs _ _ hD3), by rw [List.getElem?_map, eA]; rfl, by rw [List.getElem?_map, eB]; rfl⟩
    · intro G hs
      exact ⟨_, _, SqL.of (hs _ _ hHi3), SqL.of (hs _ _ hD3), .inl (by rw [List.length_map, hal]; exact Nat.le_refl 3)⟩
    · rintro i τ G x G2 zs R1 R2 hi' ⟨x0, y0, rfl⟩ hs hDG ⟨t', u1, u2, rfl, ht', rfl, hy1, hy2⟩ z
      obtain ⟨A, eA, hA⟩ := hRh3.get i hi'
      obtain ⟨B, eB, hB⟩ := hRt.get i hi'
      have ex := hy1 _ (SqL.of (hs _ _ hHi3))
      rw [List.getElem?_map, eA] at ex
      have ex' : u1 = .ref A := by simpa using ex.symm
      have ey := hy2 _ (SqL.of (hs _ _ hD3))
      rw [List.getElem?_map, eB] at ey
      have ey' : u2 = .ref B := by simpa using ey.symm
      subst ex' ey'
      have sG := same_new ht' (.tup [V.ref A, V.ref B])
      refine ⟨t', _, rfl, SqT.of upd_same, rfl, _, _, rfl, _, _, rfl, rfl, ?_⟩
      refine yes_go ⟨_, rfl, _, rfl, _, rfl, p, A, B, [h0, h1, h2].getD i [], _, rfl, (by omega), SqL.of (sG _ _ (hs _ _ hA)), SqL.of (sG _ _ (hs _ _ hB)), ?_, ?_, fun r G3 hs3 hr3 hn3 => ?_⟩
      · have := hlenH _ (getM [h0, h1, h2] i hi')
        omega
      · rw [eT i hi']
        have a1 := mulR_short (p := p) (one := qs) (two := [l0, l1, l2].getD i []) (by omega)
        have a2 := hlenL _ (getM [l0, l1, l2] i hi')
        omega
      · refine z _ _ _ ⟨_, _, rfl⟩ (sG.trans hs3) ⟨r, rfl, (ne_of_none (sG _ _ hDG) hn3).symm, ?_⟩
        rw [hr3, eR i hi']
        rfl
    intro ys2 H4 hyl2 hF2 hs4 hD4
    obtain ⟨cs2, rfl, hRr⟩ := rws_of (H := H4) [subR p h0 (mulR p qs l0), subR p h1 (mulR p qs l1), subR p h2 (mulR p qs l2)] ys2 hyl2 fun i y e => by
      obtain ⟨r, a1, _, a2⟩ := hF2 i y e
      exact ⟨r, a1, a2⟩
    refine ⟨_, rfl, _, rfl, (subR p h0 (mulR p qs l0)).length, (by rw [ers]; exact e7), (hs1.trans e1).trans (hs3.trans hs4), lo, D2, bs, cs2, l0, l1, l2, _, _, _, _, _, _, rfl, rfl, hs4 _ _ hLo3, hD4, hRl3.same hs4, hRr, C'⟩
  · have d' : ¬ (0 : Int) < (l0.length : Int) := of_decide_eq_false (Bool.eq_false_iff.mpr d)
    have hl0 : l0 = [] := List.length_eq_zero_iff.mp (by omega)
    subst hl0
    refine ⟨fun σ H' => H1 = H' ∧ ∃ fct : Int, (h0 ≠ [] → fct * h0.getD (h0.length - 1) 0 % p = 1) ∧ σ = [some (.int p), some (.ref a), some (.ref b), some (.ref hi), some (.ref lo), x5, x6, x7, some (.int fct)], ?_, ?_⟩
    · refine ⟨_, rfl, hi, _, _, _, rfl, rfl, SqL.of hHi, at_ref eA0, A0, _, rfl, .inl (SqL.of hA0'), _, _, rfl, rfl, _, rfl, ?_⟩
      rw [List.length_map]
      refine ite2 (fun g => ?_) (fun g => ?_)
      · have g' : (0 : Int) < (h0.length : Int) := of_decide_eq_true g
        have hne : h0 ≠ [] := fun e => by rw [e] at g'; simp at g'
        have ht := row_top C.rh0 hne
        exact ⟨_, rfl, _, rfl, hi, _, _, _, rfl, rfl, SqL.of hHi, at_ref eA0, _, rfl, A0, _, _, _, rfl, rfl, SqL.of hA0', at_last (by omega), p, _, rfl, hp, ht.1, ht.2, fun g g0 g1 hg => ⟨rfl, g, fun _ => hg, rfl⟩⟩
      · have g' : ¬ (0 : Int) < (h0.length : Int) := of_decide_eq_false (Bool.eq_false_iff.mpr g)
        exact ⟨rfl, 1, fun hne => absurd (List.length_eq_zero_iff.mp (by omega)) hne, rfl⟩
    rintro σ H' ⟨rfl, fct, hf, rfl⟩
    have hal := hRh.len
    have hrowsH : ∀ r ∈ [h0, h1, h2], Row p r := fun r hr => by
      simp only [List.mem_cons, List.not_mem_nil, or_false] at hr
      rcases hr with rfl | rfl | rfl
      · exact C.rh0
      · exact C.rh1
      · exact C.rh2
    have hlenH : ∀ r ∈ [h0, h1, h2], r.length ≤ 191 := fun r hr => by
      simp only [List.mem_cons, List.not_mem_nil, or_false] at hr
      simp only [List.length_nil] at c3 c4
      rcases hr with rfl | rfl | rfl <;> omega
    have getM : ∀ (rows : List (List Int)) i, i < rows.length → rows.getD i [] ∈ rows := fun rows i h => by
      rw [List.getD_eq_getElem?_getD, List.getElem?_eq_getElem h]
      exact List.getElem_mem h
    have eM : ∀ i, i < 3 → ([mulC p fct h0, mulC p fct h1, mulC p fct h2] : List (List Int)).getD i [] = mulC p fct ([h0, h1, h2].getD i []) := fun i h => by
      have : i = 0 ∨ i = 1 ∨ i = 2 := by omega
      rcases this with rfl | rfl | rfl <;> rfl
    refine ⟨_, rfl, hi, rfl, ⟨_, SqL.of hHi⟩, fun D hD => ?_⟩
    refine comp_at 3 hD (by decide) (fun τ => ∃ x, τ = [x, some (.int p), some (.int fct)]) (fun i H' y => ∃ r : Addr, y = .ref r ∧ (r ≠ D ∧ H r = none) ∧ H' r = some (.lst ((([mulC p fct h0, mulC p fct h1, mulC p fct h2] : List (List Int)).getD i []).map V.int))) ⟨_, rfl⟩ ?_ ?_ ?_ ?_ ?_ ?_
    · rintro i G G' y hs ⟨r, e, hn, h⟩
      exact ⟨r, e, hn, hs _ _ h⟩
    · rintro i G ys zs y hD' ⟨r, e, hn, h⟩
      exact ⟨r, e, hn, by rw [upd_ne hn.1]; exact h⟩
    · intro i G hi' hs
      obtain ⟨B, eB, hB⟩ := hRh.get i hi'
      exact ⟨_, _, SqL.of (hs _ _ hHi), by rw [List.getElem?_map, eB]; rfl⟩
    · intro G hs
      exact ⟨_, SqL.of (hs _ _ hHi), by rw [List.length_map, hal]; exact Nat.le_refl 3⟩
    · rintro i τ G x G2 zs R1 R2 hi' ⟨x0, rfl⟩ hs hDG ⟨rfl, hy⟩ z
      obtain ⟨B, eB, hB⟩ := hRh.get i hi'
      have ex := hy _ (SqL.of (hs _ _ hHi))
      rw [List.getElem?_map, eB] at ex
      have ex' : x = .ref B := by simpa using ex.symm
      subst ex'
      refine g0_yes ⟨_, rfl, _, rfl, _, rfl, p, B, [h0, h1, h2].getD i [], fct, rfl, (by omega), hpm, SqL.of (hs _ _ hB), (row_at hrowsH hi').all, ?_, fun r G3 hs3 hr3 hn3 => ?_⟩
      · have := hlenH _ (getM [h0, h1, h2] i hi')
        omega
      · refine z _ _ _ ⟨_, rfl⟩ hs3 ⟨r, rfl, ⟨(ne_of_none hDG hn3).symm, (hs1.trans hs).free hn3⟩, ?_⟩
        rw [hr3, eM i hi']
    intro ys H3 hyl hF hs3 hD3
    obtain ⟨cs, rfl, hRt⟩ := rws_of (H := H3) [mulC p fct h0, mulC p fct h1, mulC p fct h2] ys hyl fun i y e => by
      obtain ⟨r, a1, _, a2⟩ := hF i y e
      exact ⟨r, a1, a2⟩
    have hfr : ∀ i r, cs[i]? = some r → H r = none := fun i r e => by
      obtain ⟨r', a1, a2, _⟩ := hF i (.ref r) (by rw [List.getElem?_map, e]; rfl)
      cases a1
      exact a2.2
    refine ⟨D, _, rfl, .inl ⟨SqL.of hD3, fun t ht => ?_⟩⟩
    have s9 := same_new ht (.tup (cs.map V.ref))
    have L0 := mulC_len p fct h0
    have L1 := mulC_len p fct h1
    have L2 := mulC_len p fct h2
    have M0 := hlenH h0 (by simp)
    have M1 := hlenH h1 (by simp)
    have M2 := hlenH h2 (by simp)
    cases hRt with
    | cons k0 kt =>
      cases kt with
      | cons k1 kt =>
        cases kt with
        | cons k2 kt =>
          cases kt
          exact q t _ _ _ (mulC p fct h0) (mulC p fct h1) (mulC p fct h2) _ (hs1.trans (hs3.trans s9)) upd_same (s9 _ _ k0) (s9 _ _ k1) (s9 _ _ k2) (C.done hp hRa hRb hf) (by omega) (by omega) (by omega) (hfr 0 _ rfl) (hfr 1 _ rfl) (hfr 2 _ rfl)
abbrev s_power_of : Stmt := top 51
theorem sc_power_of : FnScope ["prime", "base", "exponent", "row", "half", "power"] ["prime", "base", "exponent", "row"] (defScope s_power_of) := ⟨rfl, rfl, rfl, by decide +kernel, rfl, by decide +kernel, by decide +kernel⟩
def spPow (K : PySem.W.Frag) (m : Nat) : Sp := fun vs H Q _ => ∃ (p : Int) (a b : Addr) (bs ns : List Int) (e : Nat), vs = [.int p, .ref a, .int (e : Int), .ref b] ∧ Pr p ∧ SqL K H a (bs.map V.int) ∧ SqL K H b (ns.map V.int) ∧ Row p bs ∧ Row p ns ∧ ns ≠ [] ∧ ns.length ≤ 190 ∧ bs.length ≤ 2 ∧ e < 2 ^ m / 2 ∧
  ∀ r (rs : List Int) H', Same H H' → H' r = some (.lst (rs.map V.int)) → Row p rs → rs.length < ns.length → Cg p ns (powL bs e) rs → Q (.ref r) H'
theorem ok_power_rec {n : Nat} {f f1 f2 : Addr} {fd d1 d2 : FuncData} (F : Fun K "power_of" "power_of" s_power_of f fd) (T : Txt K mg) (D_power_of : Df K mg "power_of" f fd ["prime", "base", "exponent", "row"])
    (D_parts_of : Df K mg "parts_of" f1 d1 ["prime", "one", "two"]) (G0_parts_of : FnOk P w K mg base CX0 n f1 d1 ["prime", "one", "two"] (spParts K))
    (D_product_of : Df K mg "product_of" f2 d2 ["prime", "one", "two"]) (G0_product_of : FnOk P w K mg base CX0 n f2 d2 ["prime", "one", "two"] (spMulOf K)) :
    ∀ m : Nat, FnOk P w K mg base CX0 (n + 1 + m) f fd ["prime", "base", "exponent", "row"] (spPow K m)
  | 0 => by
    refine ⟨fun vs H Q E h => ?_, fun A outer s H args us vs Q E _ _ _ _ h => ?_⟩
    · obtain ⟨p, a, b, bs, ns, e, rfl, _⟩ := h
      rfl
    · obtain ⟨p, a, b, bs, ns, e, _, _, _, _, _, _, _, _, _, he, _⟩ := h
      exact absurd he (by simp)
  | m + 1 => by
    have G_power_of := ok_power_rec F T D_power_of D_parts_of G0_parts_of D_product_of G0_product_of m
    have G_parts_of := G0_parts_of.mono (show n ≤ n + 1 + m by omega)
    have G_product_of := G0_product_of.mono (show n ≤ n + 1 + m by omega)
    refine F.ok (k := n + 1 + m) sc_power_of (fun vs H Q E h => ?_) (fun cdv A outer s H vs Q E hr h => ?_)
    · obtain ⟨p, a, b, bs, ns, e, rfl, _⟩ := h
      rfl
    obtain ⟨p, a, b, bs, ns, e, rfl, hp, hSa, hSb, hRa, hRb, hne, hlb, hla, he, q⟩ := h
    have hp0 := hp.lo
    have hpm := hp.hi
    have hn0 : 0 < ns.length := List.length_pos_iff.mpr hne
    refine ⟨_, (pss_cons (ps_if (pt_cmpR op_eqI (pv 2) pe_int (nomark _)) (pss_one (ps_ret (pe_ix ix_tup (pcall D_parts_of G_parts_of hr (pa_cons (pv 0) (pa_cons (pe_lst (pa_cons pe_int pa_nil)) (pa_cons (pv 3) pa_nil)))) pe_int (fun _ _ => rfl)))) pss_nil)
    (pss_cons (ps_set (i := 4) sc_power_of.nd rfl (Or.inl rfl) (pcall D_power_of G_power_of hr (pa_cons (pv 0) (pa_cons (pv 1) (pa_cons (pe_op op_fdiv (pv 2) pe_int) (pa_cons (pv 3) pa_nil))))))
    (pss_cons (ps_set (i := 5) sc_power_of.nd rfl (Or.inl rfl) (pe_ix ix_tup (pcall D_parts_of G_parts_of hr (pa_cons (pv 0) (pa_cons (pcall D_product_of G_product_of hr (pa_cons (pv 0) (pa_cons (pv 4) (pa_cons (pv 4) pa_nil)))) (pa_cons (pv 3) pa_nil)))) pe_int (fun _ _ => rfl)))
    (pss_cut (ps_if (pt_cmpR op_eqI (pe_op op_mod (pv 2) pe_int) pe_int (nomark _)) (pss_one (ps_set (i := 5) sc_power_of.nd rfl (Or.inl rfl) (pe_ix ix_tup (pcall D_parts_of G_parts_of hr (pa_cons (pv 0) (pa_cons (pcall D_product_of G_product_of hr (pa_cons (pv 0) (pa_cons (pv 5) (pa_cons (pv 1) pa_nil)))) (pa_cons (pv 3) pa_nil)))) pe_int (fun _ _ => rfl)))) pss_nil)
    (pss_one (ps_ret (pv 5))))))), ?_⟩
    refine ⟨_, rfl, _, _, rfl, rfl, _, rfl, ?_⟩
    refine ite2 (fun d => ?_) (fun d => ?_)
    · have d' : (e : Int) = 0 := of_decide_eq_true d
      have e0 : e = 0 := by omega
      subst e0
      refine ⟨_, rfl, (by show 1 ≤ sizeLine; decide), fun o1 ho1 => ?_⟩
      have s1 := same_new ho1 (.lst (([1] : List Int).map V.int))
      refine ⟨_, rfl, p, o1, b, [1], ns, rfl, hp, SqL.of upd_same, s1.seq hSb, one_row hp, hRb, hne, (by simp), (by omega), fun t r1 r2 qs rs H1 e1 e2 e3 e4 e5 e6 e7 e8 e9 _ _ => ?_⟩
      exact ⟨t, _, _, _, rfl, rfl, SqT.of e2, rfl, q r2 rs H1 (s1.trans e1) e4 e6 e7 ⟨qs, e9⟩⟩
    · have d' : ¬ (e : Int) = 0 := of_decide_eq_false (Bool.eq_false_iff.mpr d)
      have hm1 : 1 ≤ m := by
        by_cases c : 1 ≤ m
        · exact c
        · have : m = 0 := by omega
          rw [this] at he
          simp at he
          omega
      have ehalf : (e : Int) / 2 = ((e / 2 : Nat) : Int) := by omega
      have hhalf : e / 2 < 2 ^ m / 2 := by
        have e2 : (2 : Nat) ^ (m + 1) / 2 = 2 ^ m := by rw [Nat.pow_succ]; omega
        rw [e2] at he
        have e3 : (2 : Nat) ^ m = 2 * 2 ^ (m - 1) := by
          have : m = (m - 1) + 1 := by omega
          conv => lhs; rw [this, Nat.pow_succ]
          omega
        omega
      refine ⟨_, rfl, _, rfl, _, rfl, _, _, rfl, rfl, ⟨(by decide : (0 : Int) < 2), by decide⟩, _, rfl, p, a, b, bs, ns, e / 2, (by rw [← ehalf]; rfl), hp, hSa, hSb, hRa, hRb, hne, hlb, hla, hhalf, fun r1 hs H1 s1 hr1 hR1 hl1 hc1 => ?_⟩
      refine ⟨_, rfl, _, rfl, _, rfl, _, rfl, p, r1, r1, hs, hs, rfl, (by omega), hpm, SqL.of hr1, SqL.of hr1, hR1.all, (by omega), (by omega), fun r2 H2 s2 hr2 _ => ?_⟩
      have hml := mulR_short (p := p) (one := hs) (two := hs) (by omega)
      refine ⟨_, rfl, p, r2, b, mulR p hs hs, ns, rfl, hp, SqL.of hr2, (s1.trans s2).seq hSb, mulR_row (by omega), hRb, hne, (by omega), (by omega), fun t t1 t2 qs rs H3 e1 e2 e3 e4 e5 e6 e7 e8 e9 _ _ => ?_⟩
      refine ⟨t, _, _, _, rfl, rfl, SqT.of e2, rfl, ?_⟩
      have s3 := (s1.trans s2).trans e1
      have c2 : Cg p ns (powL bs (e / 2 + e / 2)) rs := by
        refine (Cg.of (powL_add bs (e / 2) (e / 2))).trans ((hc1.mul hc1).trans ?_)
        refine (Cg.eq (v := mulR p hs hs) ((Eq.of fun k => cf_mulL hs hs k).trans (Mth.Eq.symm (mulR_cf p hs hs)))).trans ⟨qs, e9⟩
      refine ⟨fun σ H' => Same H3 H' ∧ ∃ r rs, H' r = some (.lst (rs.map V.int)) ∧ Row p rs ∧ rs.length < ns.length ∧ Cg p ns (powL bs e) rs ∧ σ = [some (.int p), some (.ref a), some (.int (e : Int)), some (.ref b), some (.ref r1), some (.ref r)], ?_, ?_⟩
      · refine ⟨_, rfl, _, _, rfl, rfl, (show (0 : Int) < 2 by decide), _, _, rfl, rfl, _, rfl, ?_⟩
        refine ite2 (fun g => ?_) (fun g => ?_)
        · have g' : (e : Int) % 2 = 1 := of_decide_eq_true g
          refine ⟨_, rfl, _, rfl, _, rfl, _, rfl, p, t2, a, rs, bs, rfl, (by omega), hpm, SqL.of e4, s3.seq hSa, e6.all, (by omega), (by omega), fun r4 H4 s4 hr4 _ => ?_⟩
          have hml2 := mulR_short (p := p) (one := rs) (two := bs) (by omega)
          refine ⟨_, rfl, p, r4, b, mulR p rs bs, ns, rfl, hp, SqL.of hr4, (s3.trans s4).seq hSb, mulR_row (by omega), hRb, hne, (by omega), (by omega), fun u u1 u2 qs2 rs2 H5 i1 i2 i3 i4 i5 i6 i7 i8 i9 _ _ => ?_⟩
          refine ⟨u, _, _, _, rfl, rfl, SqT.of i2, rfl, s4.trans i1, u2, rs2, i4, i6, i7, ?_, rfl⟩
          have ee : e = e / 2 + e / 2 + 1 := by omega
          rw [ee]
          show Cg p ns (mulL (powL bs (e / 2 + e / 2)) bs) rs2
          refine (c2.mul (Cg.of fun _ => rfl)).trans ?_
          exact (Cg.eq (v := mulR p rs bs) ((Eq.of fun k => cf_mulL rs bs k).trans (Mth.Eq.symm (mulR_cf p rs bs)))).trans ⟨qs2, i9⟩
        · have g' : ¬ (e : Int) % 2 = 1 := of_decide_eq_false (Bool.eq_false_iff.mpr g)
          have ee : e / 2 + e / 2 = e := by omega
          rw [ee] at c2
          exact ⟨Same.refl _, t2, rs, e4, e6, e7, c2, rfl⟩
      rintro σ H' ⟨s5, r, rs', h1, h2, h3, h4, rfl⟩
      exact ⟨_, rfl, q r rs' H' (s3.trans s5) h1 h2 h3 h4⟩
theorem ok_power_of {n : Nat} {f f1 f2 : Addr} {fd d1 d2 : FuncData} (F : Fun K "power_of" "power_of" s_power_of f fd) (T : Txt K mg) (D_power_of : Df K mg "power_of" f fd ["prime", "base", "exponent", "row"])
    (D_parts_of : Df K mg "parts_of" f1 d1 ["prime", "one", "two"]) (G_parts_of : FnOk P w K mg base CX0 n f1 d1 ["prime", "one", "two"] (spParts K))
    (D_product_of : Df K mg "product_of" f2 d2 ["prime", "one", "two"]) (G_product_of : FnOk P w K mg base CX0 n f2 d2 ["prime", "one", "two"] (spMulOf K)) :
    FnOk P w K mg base CX0 (n + 22) f fd ["prime", "base", "exponent", "row"] (spPow K 21) := by
  exact ok_power_rec F T D_power_of D_parts_of G_parts_of D_product_of G_product_of 21
abbrev s_once_each_of : Stmt := top 52
theorem sc_once_each_of : FnScope ["prime", "row", "base", "power"] ["prime", "row"] (defScope s_once_each_of) := ⟨rfl, rfl, rfl, by decide +kernel, rfl, by decide +kernel, by decide +kernel⟩
def spOnce : Sp := fun vs H Q _ => ∃ (p : Int) (b : Addr) (ns : List Int), vs = [.int p, .ref b] ∧ Pr p ∧ H b = some (.lst (ns.map V.int)) ∧ Row p ns ∧ ns ≠ [] ∧ ns.length ≤ 190 ∧
  ∀ r (g : List Int) H', Same H H' → H' r = some (.lst (g.map V.int)) → Full p g → (∀ a, p ∣ ev a g ↔ p ∣ ev a ns) → H r = none → Q (.ref r) H'
theorem two21 {p : Int} (P : Pr p) : p.toNat < 2 ^ 21 / 2 := by
  have := P.hi
  have := P.lo
  have : (2 : Nat) ^ 21 / 2 = 1048576 := by decide
  omega
theorem x_row {p s : Int} (P : Pr p) (h0 : 0 ≤ s) (h1 : s < p) : Row p [s, 1] := by
  have := P.lo
  refine ⟨fun x hx => ?_, fun _ => by simp⟩
  simp only [List.mem_cons, List.not_mem_nil, or_false] at hx
  rcases hx with rfl | rfl <;> omega
theorem ok_once_each_of {n : Nat} {f f1 f2 f3 : Addr} {fd d1 d2 d3 : FuncData} (F : Fun K "once_each_of" "once_each_of" s_once_each_of f fd) (T : Txt K mg) (D_power_of : Df K mg "power_of" f1 d1 ["prime", "base", "exponent", "row"]) (G_power_of : FnOk P w K mg base CX0 n f1 d1 ["prime", "base", "exponent", "row"] (spPow K 21))
    (D_common_of : Df K mg "common_of" f2 d2 ["prime", "one", "two"]) (G_common_of : FnOk P w K mg base CX0 n f2 d2 ["prime", "one", "two"] spCommonOf)
    (D_difference_of : Df K mg "difference_of" f3 d3 ["prime", "one", "two"]) (G_difference_of : FnOk P w K mg base CX0 n f3 d3 ["prime", "one", "two"] (spDiffOf K)) :
    FnOk P w K mg base CX0 (n + 1) f fd ["prime", "row"] spOnce := by
  refine F.ok sc_once_each_of (fun vs H Q E h => ?_) (fun cdv A outer s H vs Q E hr h => ?_)
  · obtain ⟨p, b, ns, rfl, _⟩ := h
    rfl
  obtain ⟨p, b, ns, rfl, hp, hH, hR, hne, hl, q⟩ := h
  have hp0 := hp.lo
  have hpm := hp.hi
  have ep : p = ((p.toNat : Nat) : Int) := by omega
  refine ⟨_, (pss_cons (ps_set (i := 2) sc_once_each_of.nd rfl (Or.inl rfl) (pe_lst (pa_cons pe_int (pa_cons pe_int pa_nil))))
    (pss_cons (ps_set (i := 3) sc_once_each_of.nd rfl (Or.inl rfl) (pcall D_power_of G_power_of hr (pa_cons (pv 0) (pa_cons (pv 2) (pa_cons (pv 0) (pa_cons (pv 1) pa_nil))))))
    (pss_one (ps_ret (pe_ix ix_tup (pcall D_common_of G_common_of hr (pa_cons (pv 0) (pa_cons (pv 1) (pa_cons (pcall D_difference_of G_difference_of hr (pa_cons (pv 0) (pa_cons (pv 3) (pa_cons (pv 2) pa_nil)))) pa_nil)))) pe_int (fun _ _ => rfl)))))), ?_⟩
  refine ⟨(by show 2 ≤ sizeLine; decide), fun xb hxb => ?_⟩
  have s1 := same_new hxb (.lst (([0, 1] : List Int).map V.int))
  refine ⟨_, rfl, _, rfl, _, rfl, _, rfl, p, xb, b, [0, 1], ns, p.toNat, (by rw [← ep]; rfl), hp, SqL.of upd_same, SqL.of (s1 _ _ hH), x_row hp (by omega) (by omega), hR, hne, hl, (by simp), two21 hp, fun r rs H1 s2 hr1 hR1 hl1 hc => ?_⟩
  have hX := s2 _ _ (upd_same (H := H) (a := xb) (o := .lst (([0, 1] : List Int).map V.int)))
  have hsl := subR_len p rs [0, 1]
  refine ⟨_, rfl, _, rfl, _, rfl, _, rfl, _, rfl, p, r, xb, rs, [0, 1], rfl, (by omega), SqL.of hr1, SqL.of hX, (by omega), (by simp), fun r2 H2 s3 hr2 _ => ?_⟩
  have t3 := (s1.trans s2).trans s3
  refine ⟨p, b, r2, ns, subR p rs [0, 1], rfl, hp, t3 _ _ hH, hr2, hR, subR_row (by omega), hl, (by simp at hsl; omega), fun t k0 k1 k2 g u v H3 s4 ht hk0 hk1 hk2 C _ _ _ f0 _ _ => ?_⟩
  obtain ⟨Fg, hroots⟩ := once hp hne hc C
  exact ⟨t, _, _, _, rfl, rfl, SqT.of ht, rfl, q k0 g H3 (t3.trans s4) hk0 Fg hroots (t3.free f0)⟩
abbrev s_halves_of : Stmt := top 53
theorem sc_halves_of : FnScope ["prime", "row", "shift", "power", "half"] ["prime", "row", "shift"] (defScope s_halves_of) := ⟨rfl, rfl, rfl, by decide +kernel, rfl, by decide +kernel, by decide +kernel⟩
def spHalves : Sp := fun vs H Q _ => ∃ (p : Int) (b : Addr) (g : List Int) (s : Nat), vs = [.int p, .ref b, .int (s : Int)] ∧ Pr p ∧ (s : Int) < p ∧ H b = some (.lst (g.map V.int)) ∧ Full p g ∧ g.length ≤ 190 ∧
  ∀ t r1 r2 (h k : List Int) H', Same H H' → H' t = some (.tup [.ref r1, .ref r2]) → H' r1 = some (.lst (h.map V.int)) → H' r2 = some (.lst (k.map V.int)) → Full p h → Full p k → (rts p g).Perm (rts p h ++ rts p k) →
    (∀ a ∈ rts p h, a ∈ rts p g ∧ SS p (a + (s : Int))) → (∀ a ∈ rts p k, a ∈ rts p g ∧ ¬ SS p (a + (s : Int))) → H r1 = none → H r2 = none → Q (.ref t) H'
theorem ok_halves_of {n : Nat} {f f1 f2 f3 f4 : Addr} {fd d1 d2 d3 d4 : FuncData} (F : Fun K "halves_of" "halves_of" s_halves_of f fd) (T : Txt K mg) (D_power_of : Df K mg "power_of" f1 d1 ["prime", "base", "exponent", "row"]) (G_power_of : FnOk P w K mg base CX0 n f1 d1 ["prime", "base", "exponent", "row"] (spPow K 21))
    (D_common_of : Df K mg "common_of" f2 d2 ["prime", "one", "two"]) (G_common_of : FnOk P w K mg base CX0 n f2 d2 ["prime", "one", "two"] spCommonOf)
    (D_difference_of : Df K mg "difference_of" f3 d3 ["prime", "one", "two"]) (G_difference_of : FnOk P w K mg base CX0 n f3 d3 ["prime", "one", "two"] (spDiffOf K))
    (D_parts_of : Df K mg "parts_of" f4 d4 ["prime", "one", "two"]) (G_parts_of : FnOk P w K mg base CX0 n f4 d4 ["prime", "one", "two"] (spParts K)) :
    FnOk P w K mg base CX0 (n + 1) f fd ["prime", "row", "shift"] spHalves := by
  refine F.ok sc_halves_of (fun vs H Q E h => ?_) (fun cdv A outer s H vs Q E hr h => ?_)
  · obtain ⟨p, b, g, s, rfl, _⟩ := h
    rfl
  obtain ⟨p, b, g, s, rfl, hp, hs, hH, Fg, hl, q⟩ := h
  have hp0 := hp.lo
  have hpm := hp.hi
  have h21 := two21 hp
  have ep : p / 2 = (((p / 2).toNat : Nat) : Int) := by omega
  refine ⟨_, (pss_cons (ps_set (i := 3) sc_halves_of.nd rfl (Or.inl rfl) (pcall D_power_of G_power_of hr (pa_cons (pv 0) (pa_cons (pe_lst (pa_cons (pv 2) (pa_cons pe_int pa_nil))) (pa_cons (pe_op op_fdiv (pv 0) pe_int) (pa_cons (pv 1) pa_nil))))))
    (pss_cons (ps_set (i := 4) sc_halves_of.nd rfl (Or.inl rfl) (pe_ix ix_tup (pcall D_common_of G_common_of hr (pa_cons (pv 0) (pa_cons (pv 1) (pa_cons (pcall D_difference_of G_difference_of hr (pa_cons (pv 0) (pa_cons (pv 3) (pa_cons (pe_lst (pa_cons pe_int pa_nil)) pa_nil)))) pa_nil)))) pe_int (fun _ _ => rfl)))
    (pss_one (ps_ret (pe_tup (pa_cons (pv 4) (pa_cons (pe_ix ix_tup (pcall D_parts_of G_parts_of hr (pa_cons (pv 0) (pa_cons (pv 1) (pa_cons (pv 4) pa_nil)))) pe_int (fun _ _ => rfl)) pa_nil))))))), ?_⟩
  refine ⟨_, rfl, _, rfl, (by show 2 ≤ sizeLine; decide), fun xb hxb => ?_⟩
  have s1 := same_new hxb (.lst (([(s : Int), 1] : List Int).map V.int))
  refine ⟨_, rfl, _, _, rfl, rfl, ⟨(by decide : (0 : Int) < 2), by decide⟩, _, rfl, p, xb, b, [(s : Int), 1], g, (p / 2).toNat, (by rw [← ep]; rfl), hp, SqL.of upd_same, SqL.of (s1 _ _ hH), x_row hp (by omega) hs, Fg.row, Fg.ne, hl, (by simp), (by omega), fun r rs H1 s2 hr1 hR1 hl1 hc => ?_⟩
  refine ⟨_, rfl, _, rfl, _, rfl, _, rfl, (by show 1 ≤ sizeLine; decide), fun o1 ho1 => ?_⟩
  have s3 := same_new ho1 (.lst (([1] : List Int).map V.int))
  have hsl := subR_len p rs [1]
  refine ⟨p, r, o1, rs, [1], rfl, (by omega), SqL.of (s3 _ _ hr1), SqL.of upd_same, (by omega), (by simp), fun r2 H2 s4 hr2 _ => ?_⟩
  have t4 := ((s1.trans s2).trans s3).trans s4
  refine ⟨p, b, r2, g, subR p rs [1], rfl, hp, t4 _ _ hH, hr2, Fg.row, subR_row (by omega), hl, (by simp at hsl; omega), fun t k0 k1 k2 h u v H3 s5 ht hk0 hk1 hk2 C l0 l1 l2 f0 _ _ => ?_⟩
  refine ⟨t, _, _, _, rfl, rfl, SqT.of ht, rfl, ?_⟩
  have hne : h ≠ [] := fun z => Fg.ne (C.nil.mp z).1
  have t5 := t4.trans s5
  refine ⟨_, rfl, _, rfl, _, rfl, _, rfl, p, b, k0, g, h, rfl, hp, SqL.of (t5 _ _ hH), SqL.of hk0, Fg.row, C.rg, hne, (by omega), (by omega), fun w w1 w2 qs rest H4 e1 e2 e3 e4 e5 e6 e7 e8 e9 f1 _ => ?_⟩
  have hrest : rest = [] := (dvs_iff hp C.rg e6 e7 e9).mp C.d1
  have heq : Mth.Eq p (cf g) (cm qs (cf h)) := fun k => by
    have a : p ∣ cf g k - (cm qs (cf h) k + cf rest k) := e9 k
    rwa [hrest, cf_nil, Int.add_zero] at a
  have qne : qs ≠ [] := fun z => Fg.ne (row_eq (by omega) Fg.row (row_nil p) fun k => by
    have a := heq k
    rw [z, cm_nil] at a
    rw [cf_nil]
    exact a)
  obtain ⟨Fh, Fq, perm, a1, a2⟩ := halves hp Fg hc C e5 qne heq
  refine ⟨w, _, _, _, rfl, rfl, SqT.of e2, rfl, (by show 2 ≤ sizeLine; decide), fun tt htt => ?_⟩
  have s6 := same_new htt (.tup [V.ref k0, V.ref w1])
  exact q tt k0 w1 h qs _ (t5.trans (e1.trans s6)) upd_same (s6 _ _ (e1 _ _ hk0)) (s6 _ _ e3) Fh Fq perm a1 a2 (t4.free f0) (t5.free f1)
abbrev s_spots_of : Stmt := top 54
theorem sc_spots_of : FnScope ["prime", "row", "spots", "pieces", "shift", "longer", "piece", "half"] ["prime", "row"] (defScope s_spots_of) := ⟨rfl, rfl, rfl, by decide +kernel, rfl, by decide +kernel, by decide +kernel⟩
def spSpotsOf : Sp := fun vs H Q _ => ∃ (p : Int) (b : Addr) (ns : List Int), vs = [.int p, .ref b] ∧ Pr p ∧ H b = some (.lst (ns.map V.int)) ∧ Row p ns ∧ ns ≠ [] ∧ ns.length ≤ 60 ∧
  ∀ r (ms : List Int) H', Same H H' → H' r = some (.lst (ms.map V.int)) → ms.Pairwise (· < ·) → (∀ a, a ∈ ms ↔ a ∈ rts p ns) → Q (.ref r) H'
theorem Rws.upd2 {H : Hp} {R : Addr} {o : HO} : ∀ {as : List Addr} {rows : List (List Int)}, (∀ a ∈ as, a ≠ R) → Rws H as rows → Rws (L2.upd H R o) as rows
  | _, _, _, .nil => .nil
  | x :: _, _, hn, .cons h t => .cons (by
      have := hn x List.mem_cons_self
      show L2.upd H R o x = _
      rw [upd_ne this]
      exact h) (Rws.upd2 (fun a ha => hn a (List.mem_cons_of_mem _ ha)) t)
theorem Rws.mem {H : Hp} : ∀ {as : List Addr} {rows : List (List Int)}, Rws H as rows → ∀ a ∈ as, ∃ row, H a = some (.lst (row.map V.int)) ∧ row ∈ rows
  | _, _, .nil, a, h => absurd h List.not_mem_nil
  | _, row :: _, .cons e t, a, h => by
    rcases List.mem_cons.mp h with rfl | h
    · exact ⟨row, e, List.mem_cons_self⟩
    · obtain ⟨r, e1, e2⟩ := Rws.mem t a h
      exact ⟨r, e1, List.mem_cons_of_mem _ e2⟩
theorem fl_append (p : Int) (a b : List (List Int)) : fl p (a ++ b) = fl p a ++ fl p b := List.flatMap_append
theorem fl_cons (p : Int) (g : List Int) (b : List (List Int)) : fl p (g :: b) = rts p g ++ fl p b := List.flatMap_cons
theorem fl_one (p : Int) (g : List Int) : fl p [g] = rts p g := by
  rw [fl_cons]
  show rts p g ++ [] = _
  rw [List.append_nil]
structure Sst (H : Hp) (sa la pa t r1 r2 : Addr) (as ls : List Addr) (gs lg : List (List Int)) (sp h k : List Int) : Prop where
  t : H t = some (.tup [.ref r1, .ref r2])
  r1 : H r1 = some (.lst (h.map V.int))
  r2 : H r2 = some (.lst (k.map V.int))
  pa : H pa = some (.lst (as.map V.ref))
  as : Rws H as gs
  sa : H sa = some (.lst (sp.map V.int))
  la : H la = some (.lst (ls.map V.ref))
  ls : Rws H ls lg
structure Sne (sa la pa r1 r2 : Addr) (as ls : List Addr) : Prop where
  r1s : r1 ≠ sa
  r1l : r1 ≠ la
  r2s : r2 ≠ sa
  r2l : r2 ≠ la
  ps : pa ≠ sa
  pl : pa ≠ la
  lsa : la ≠ sa
  as : ∀ a ∈ as, a ≠ sa ∧ a ≠ la
  ls : ∀ a ∈ ls, a ≠ sa ∧ a ≠ la
theorem Sst.updS {H : Hp} {sa la pa t r1 r2 : Addr} {as ls : List Addr} {gs lg : List (List Int)} {sp h k : List Int} (S : Sst H sa la pa t r1 r2 as ls gs lg sp h k) (N : Sne sa la pa r1 r2 as ls) (sp' : List Int) : Sst (L2.upd H sa (.lst (sp'.map V.int))) sa la pa t r1 r2 as ls gs lg sp' h k where
  t := by
    rw [upd_ne (fun e => by have q := S.t; rw [e, S.sa] at q; cases q)]
    exact S.t
  r1 := by rw [upd_ne N.r1s]; exact S.r1
  r2 := by rw [upd_ne N.r2s]; exact S.r2
  pa := by rw [upd_ne N.ps]; exact S.pa
  as := Rws.upd2 (fun a ha => (N.as a ha).1) S.as
  sa := upd_same
  la := by rw [upd_ne N.lsa]; exact S.la
  ls := Rws.upd2 (fun a ha => (N.ls a ha).1) S.ls
theorem Sst.updL {H : Hp} {sa la pa t r1 r2 ra : Addr} {as ls : List Addr} {gs lg : List (List Int)} {sp h k half : List Int} (S : Sst H sa la pa t r1 r2 as ls gs lg sp h k) (N : Sne sa la pa r1 r2 as ls) (hra : H ra = some (.lst (half.map V.int))) (hn : ra ≠ la) :
    Sst (L2.upd H la (.lst (ls.map V.ref ++ [V.ref ra]))) sa la pa t r1 r2 as (ls ++ [ra]) gs (lg ++ [half]) sp h k where
  t := by
    rw [upd_ne (fun e => by have q := S.t; rw [e, S.la] at q; cases q)]
    exact S.t
  r1 := by rw [upd_ne N.r1l]; exact S.r1
  r2 := by rw [upd_ne N.r2l]; exact S.r2
  pa := by rw [upd_ne N.pl]; exact S.pa
  as := Rws.upd2 (fun a ha => (N.as a ha).2) S.as
  sa := by rw [upd_ne (Ne.symm N.lsa)]; exact S.sa
  la := by rw [upd_same, List.map_append]; rfl
  ls := Rws.snoc (by rw [upd_ne hn]; exact hra) (Rws.upd2 (fun a ha => (N.ls a ha).2) S.ls)
theorem ok_spots_of {n : Nat} {f f1 f2 : Addr} {fd d1 d2 : FuncData} (F : Fun K "spots_of" "spots_of" s_spots_of f fd) (T : Txt K mg) (D_once_each_of : Df K mg "once_each_of" f1 d1 ["prime", "row"]) (G_once_each_of : FnOk P w K mg base CX0 n f1 d1 ["prime", "row"] spOnce)
    (D_halves_of : Df K mg "halves_of" f2 d2 ["prime", "row", "shift"]) (G_halves_of : FnOk P w K mg base CX0 n f2 d2 ["prime", "row", "shift"] spHalves) :
    FnOk P w K mg base CX0 (n + 1) f fd ["prime", "row"] spSpotsOf := by
  refine F.ok sc_spots_of (fun vs H Q E h => ?_) (fun cdv A outer s H vs Q E hr h => ?_)
  · obtain ⟨p, b, ns, rfl, _⟩ := h
    rfl
  obtain ⟨p, b, ns, rfl, hp, hH, hR, hne, hl, q⟩ := h
  have hp0 := hp.lo
  have hpm := hp.hi
  refine ⟨_, (pss_cons (ps_set (i := 2) sc_spots_of.nd rfl (Or.inl rfl) (pe_lst pa_nil))
    (pss_cons (ps_set (i := 3) sc_spots_of.nd rfl (Or.inl rfl) (pe_lst (pa_cons (pcall D_once_each_of G_once_each_of hr (pa_cons (pv 0) (pa_cons (pv 1) pa_nil))) pa_nil)))
    (pss_cons (ps_set (i := 4) sc_spots_of.nd rfl (Or.inl rfl) pe_int)
    (pss_cons (ps_while PassesOwn.never (pt_cmpR op_gt (pe_callB call_len_seq rfl T.len bt_len (pa_cons (pv 3) pa_nil)) pe_int (nomark _)) (pss_cons (ps_set (i := 5) sc_spots_of.nd rfl (Or.inl rfl) (pe_lst pa_nil))
    (pss_cons (ps_for PassesOwn.never rfl (pi_list (pv 3)) (pg_name (i := 6) sc_spots_of.nd rfl (Or.inl rfl)) (pss_one (ps_for PassesOwn.never rfl (pi_tup (pcall D_halves_of G_halves_of hr (pa_cons (pv 0) (pa_cons (pv 6) (pa_cons (pv 4) pa_nil))))) (pg_name (i := 7) sc_spots_of.nd rfl (Or.inl rfl)) (pss_cut (ps_if (pt_cmpR op_eqI (pe_callB call_len_seq rfl T.len bt_len (pa_cons (pv 7) pa_nil)) pe_int (nomark _)) (pss_one (ps_expr (pe_bm PySem.F.plainAttrs_list PySem.F.slot_list_append PySem.F.type_list_append mt_append (pv 2) (pa_cons (pe_op op_mod (pe_un un_neg (pe_ix ix_list (pv 7) pe_int (fun _ _ => rfl))) (pv 0)) pa_nil)))) pss_nil)
    (pss_one (ps_if (pt_cmpR op_gt (pe_callB call_len_seq rfl T.len bt_len (pa_cons (pv 7) pa_nil)) pe_int (nomark _)) (pss_one (ps_expr (pe_bm PySem.F.plainAttrs_list PySem.F.slot_list_append PySem.F.type_list_append mt_append (pv 5) (pa_cons (pv 7) pa_nil)))) pss_nil))))))
    (pss_cons (ps_set (i := 3) sc_spots_of.nd rfl (Or.inl rfl) (pv 5))
    (pss_one (ps_aug (i := 4) sc_spots_of.nd rfl (Or.inl rfl) pe_int ip_add))))))
    (pss_one (ps_ret (pe_callB call_sorted rfl T.sorted bt_sorted (pa_cons (pv 2) pa_nil)))))))), ?_⟩
  refine ⟨(by show 0 ≤ sizeLine; decide), fun sa hsa => ?_⟩
  have s1 := same_new hsa (.lst ([] : List V))
  refine ⟨_, rfl, _, rfl, p, b, ns, rfl, hp, s1 _ _ hH, hR, hne, (by omega), fun ga g H1 s2 hg Fg hroots hgf => ⟨(by show 1 ≤ sizeLine; decide), fun pa hpa => ?_⟩⟩
  have s3 := same_new hpa (.lst [V.ref ga])
  have hrl := rts_le hp hR hne
  have hA : rts p g = rts p ns := by
    unfold rts
    refine List.filter_congr fun x _ => ?_
    rw [Bool.eq_iff_iff, rt_iff, rt_iff]
    exact hroots x
  generalize hAA : rts p ns = AA at hA hrl
  have hAAl : AA.length ≤ 59 := by omega
  have hlenF : g.length ≤ 60 := by
    have := Fg.all
    rw [hA] at this
    omega
  refine while_n (fun m σ H' => Same H H' ∧ ∃ (pa : Addr) (as : List Addr) (gs : List (List Int)) (sp : List Int) (sh : Nat) (x5 x6 x7 : Option V), m = (p - (sh : Int)).toNat ∧ (sh : Int) ≤ p ∧ σ = [some (.int p), some (.ref b), some (.ref sa), some (.ref pa), some (.int (sh : Int)), x5, x6, x7] ∧ pa ≠ sa ∧ (∀ a ∈ as, a ≠ sa) ∧ H' sa = some (.lst (sp.map V.int)) ∧ H' pa = some (.lst (as.map V.ref)) ∧ Rws H' as gs ∧ (∀ g ∈ gs, PcOk p sh g ∧ g.length ≤ 60) ∧ ∀ a, (sp ++ fl p gs).count a = AA.count a)
    ⟨p.toNat, (s1.trans s2).trans s3, pa, [ga], [g], [], 0, none, none, none, (by simp), (by omega), rfl, ?_, ?_, s3 _ _ (s2 _ _ upd_same), upd_same, .cons (s3 _ _ hg) .nil, ?_, ?_⟩ ?_
  · exact (ne_of_none (s2 _ _ upd_same) hpa).symm
  · intro a ha
    have e : a = ga := by simpa using ha
    rw [e]
    exact (ne_of_none upd_same hgf).symm
  · intro g' hg'
    have e : g' = g := by simpa using hg'
    rw [e]
    exact ⟨⟨Fg, (fun _ _ _ _ t ht => absurd ht (Nat.not_lt_zero t)), fun h => absurd h (Nat.lt_irrefl 0)⟩, hlenF⟩
  · intro a
    rw [List.nil_append, fl_one, hA]
  clear s3 hpa pa
  rintro m σ H2 ⟨hs2, pa, as, gs, sp, sh, x5, x6, x7, rfl, hshp, rfl, hps, has, hsp, hpa, hRw, hpc, hcnt⟩
  have hal := hRw.len
  have hbound : ∀ (xs : List Int), (∀ a, xs.count a = AA.count a) → xs.length = AA.length := fun xs h => Nat.le_antisymm (len_of_count _ _ fun a => Nat.le_of_eq (h a)) (len_of_count _ _ fun a => Nat.le_of_eq (h a).symm)
  refine ⟨_, rfl, pa, _, rfl, .inl (SqL.of hpa), _, _, rfl, rfl, _, rfl, ?_⟩
  rw [List.length_map, hal]
  refine ite2 (fun d => ?_) (fun d => ?_)
  · have d' : (0 : Int) < (gs.length : Int) := of_decide_eq_true d
    have hlow : (sh : Int) < p := by
      cases gs with
      | nil => simp at d'
      | cons g0 r => exact (hpc g0 List.mem_cons_self).1.low hp
    refine ⟨fun σ' H' => ∃ m', m' < (p - (sh : Int)).toNat ∧ (Same H H' ∧ ∃ (pa : Addr) (as : List Addr) (gs : List (List Int)) (sp : List Int) (sh : Nat) (x5 x6 x7 : Option V), m' = (p - (sh : Int)).toNat ∧ (sh : Int) ≤ p ∧ σ' = [some (.int p), some (.ref b), some (.ref sa), some (.ref pa), some (.int (sh : Int)), x5, x6, x7] ∧ pa ≠ sa ∧ (∀ a ∈ as, a ≠ sa) ∧ H' sa = some (.lst (sp.map V.int)) ∧ H' pa = some (.lst (as.map V.ref)) ∧ Rws H' as gs ∧ (∀ g ∈ gs, PcOk p sh g ∧ g.length ≤ 60) ∧ ∀ a, (sp ++ fl p gs).count a = AA.count a), fun _ _ h => h, ?_⟩
    refine ⟨(by show 0 ≤ sizeLine; decide), fun la hla => ?_⟩
    have s4 := same_new hla (.lst ([] : List V))
    have hlaH : H la = none := hs2.free hla
    have hls : la ≠ sa := (ne_of_none hsp hla).symm
    have hlp : la ≠ pa := (ne_of_none hpa hla).symm
    have hla_as : ∀ a ∈ as, a ≠ la := fun a ha => by
      obtain ⟨row, e, _⟩ := hRw.mem a ha
      exact ne_of_none e hla
    refine ⟨_, rfl, pa, rfl, ⟨_, SqL.of (s4 _ _ hpa)⟩, for_list (xs := as.map V.ref) (fun i σ H' => Same H H' ∧ ∃ (ls : List Addr) (lg : List (List Int)) (sp : List Int) (x6 x7 : Option V), σ = [some (.int p), some (.ref b), some (.ref sa), some (.ref pa), some (.int (sh : Int)), some (.ref la), x6, x7] ∧ H' pa = some (.lst (as.map V.ref)) ∧ Rws H' as gs ∧ H' sa = some (.lst (sp.map V.int)) ∧ H' la = some (.lst (ls.map V.ref)) ∧ Rws H' ls lg ∧ (∀ a ∈ ls, a ≠ sa ∧ a ≠ la) ∧ (∀ g ∈ lg, PcOk p (sh + 1) g ∧ g.length ≤ 60) ∧ ∀ a, (sp ++ fl p lg ++ fl p (gs.drop i)).count a = AA.count a)
      ⟨hs2.trans s4, [], [], sp, _, _, rfl, s4 _ _ hpa, hRw.same s4, s4 _ _ hsp, upd_same, .nil, (fun a h => absurd h List.not_mem_nil), (fun g h => absurd h List.not_mem_nil), ?_⟩ (fun i σ H' _ h => by obtain ⟨_, ls, lg, sp, x6, x7, _, h2, _⟩ := h; exact SqL.of h2) ?_ ?_⟩
    · intro a
      have := hcnt a
      rw [List.drop_zero]
      show (sp ++ [] ++ fl p gs).count a = _
      rw [List.append_nil]
      exact this
    · rintro i x σ H3 hx ⟨hs3, ls, lg, sp3, y6, y7, rfl, hpa3, hRw3, hsp3, hla3, hRl3, hls3, hpl3, hcnt3⟩
      have hi : i < gs.length := by
        have := (List.getElem?_eq_some_iff.mp hx).1
        rw [List.length_map] at this
        omega
      obtain ⟨ka, eka, hka⟩ := hRw3.get i hi
      have ex : x = .ref ka := by
        rw [List.getElem?_map, eka] at hx
        simpa using hx.symm
      subst ex
      have egi : gs.getD i [] = gs[i] := by
        rw [List.getD_eq_getElem?_getD, List.getElem?_eq_getElem hi]
        rfl
      have hgm : gs.getD i [] ∈ gs := by rw [egi]; exact List.getElem_mem hi
      obtain ⟨hpi, hli⟩ := hpc _ hgm
      have edrop : gs.drop i = gs.getD i [] :: gs.drop (i + 1) := by rw [List.drop_eq_getElem_cons hi, egi]
      generalize gs.getD i [] = g0 at hka hgm hpi hli edrop
      refine ⟨_, rfl, _, rfl, _, rfl, p, ka, g0, sh, rfl, hp, hlow, hka, hpi.full, (by omega), fun t r1 r2 h k H4 s5 ht hr1 hr2 Fh Fk perm a1 a2 fr1 fr2 => ?_⟩
      have pc := fun a => perm.count_eq a
      have lens : h.length ≤ 60 ∧ k.length ≤ 60 := by
        have e0 := perm.length_eq
        rw [List.length_append] at e0
        have := hpi.full.all
        have := Fh.all
        have := Fk.all
        omega
      have hcut : ∀ a, (sp3 ++ fl p lg ++ (rts p h ++ rts p k) ++ fl p (gs.drop (i + 1))).count a = AA.count a := fun a => by
        have c1 := hcnt3 a
        rw [edrop, fl_cons] at c1
        have c2 := pc a
        simp only [List.count_append] at c1 c2 ⊢
        omega
      have N0 : ∀ ls' : List Addr, (∀ a ∈ ls', a ≠ sa ∧ a ≠ la) → Sne sa la pa r1 r2 as ls' := fun ls' h =>
        ⟨(ne_of_none hsp3 fr1).symm, (ne_of_none hla3 fr1).symm, (ne_of_none hsp3 fr2).symm, (ne_of_none hla3 fr2).symm, hps, Ne.symm hlp, hls, fun a ha => ⟨has a ha, hla_as a ha⟩, h⟩
      refine ⟨t, rfl, ⟨_, SqT.of ht⟩, for_tup (xs := [V.ref r1, V.ref r2]) (fun j σ H' => Same H H' ∧ ∃ (ls : List Addr) (lg : List (List Int)) (sp : List Int) (x7 : Option V), σ = [some (.int p), some (.ref b), some (.ref sa), some (.ref pa), some (.int (sh : Int)), some (.ref la), some (.ref ka), x7] ∧ Sst H' sa la pa t r1 r2 as ls gs lg sp h k ∧ (∀ a ∈ ls, a ≠ sa ∧ a ≠ la) ∧ (∀ g ∈ lg, PcOk p (sh + 1) g ∧ g.length ≤ 60) ∧ ∀ a, (sp ++ fl p lg ++ fl p (([h, k] : List (List Int)).drop j) ++ fl p (gs.drop (i + 1))).count a = AA.count a)
        ⟨hs3.trans s5, ls, lg, sp3, _, rfl, ⟨ht, hr1, hr2, s5 _ _ hpa3, hRw3.same s5, s5 _ _ hsp3, s5 _ _ hla3, hRl3.same s5⟩, hls3, hpl3, ?_⟩ (fun j σ H' _ h => by obtain ⟨_, ls, lg, sp, x7, _, S, _⟩ := h; exact SqT.of S.t) ?_ ?_⟩
      · intro a
        have := hcut a
        rw [List.drop_zero, fl_cons, fl_one]
        exact this
      · rintro j x σ H5 hx ⟨hs6, ls5, lg5, sp5, y7', rfl, S5, hls5, hpl5, hcnt5⟩
        have N5 := N0 ls5 hls5
        have key : ∃ ra half, x = .ref ra ∧ (∀ G ls' lg' sp', Sst G sa la pa t r1 r2 as ls' gs lg' sp' h k → G ra = some (.lst (half.map V.int))) ∧ ra ≠ sa ∧ ra ≠ la ∧ Full p half ∧ half.length ≤ 60 ∧ ([h, k] : List (List Int)).drop j = half :: ([h, k] : List (List Int)).drop (j + 1) ∧ (∃ bb : Prop, ∀ a ∈ rts p half, a ∈ rts p g0 ∧ (SS p (a + (sh : Int)) ↔ bb)) := by
          have : j = 0 ∨ j = 1 := by
            have := (List.getElem?_eq_some_iff.mp hx).1
            simp at this
            omega
          rcases this with rfl | rfl
          · exact ⟨r1, h, by simpa using hx.symm, fun G _ _ _ S => S.r1, N5.r1s, N5.r1l, Fh, lens.1, rfl, True, fun a ha => ⟨(a1 a ha).1, ⟨fun _ => trivial, fun _ => (a1 a ha).2⟩⟩⟩
          · exact ⟨r2, k, by simpa using hx.symm, fun G _ _ _ S => S.r2, N5.r2s, N5.r2l, Fk, lens.2, rfl, False, fun a ha => ⟨(a2 a ha).1, ⟨fun z => (a2 a ha).2 z, fun z => z.elim⟩⟩⟩
        obtain ⟨ra, half, rfl, hra, hras, hral, Fhf, hlh, edr, bb, hbb⟩ := key
        have hra5 := hra _ _ _ _ S5
        have hhl : (half.map V.int).length = half.length := List.length_map _
        have hlen5 := hbound _ hcnt5
        simp only [List.length_append] at hlen5
        rw [edr] at hcnt5
        refine ⟨fun σ H' => Same H H' ∧ ∃ sp6, σ = [some (.int p), some (.ref b), some (.ref sa), some (.ref pa), some (.int (sh : Int)), some (.ref la), some (.ref ka), some (.ref ra)] ∧ Sst H' sa la pa t r1 r2 as ls5 gs lg5 sp6 h k ∧ (∀ a, sp6.count a = sp5.count a + if half.length = 2 then (rts p half).count a else 0), ?_, ?_⟩
        · refine ⟨_, rfl, ra, _, rfl, .inl (SqL.of hra5), _, _, rfl, rfl, _, rfl, ?_⟩
          rw [hhl]
          refine ite2 (fun d => ?_) (fun d => ?_)
          · have d' : (half.length : Int) = 2 := of_decide_eq_true d
            have hl2 : half.length = 2 := by omega
            have e2 := full_two hp Fhf hl2
            refine ⟨_, rfl, .inl ⟨rfl, _, SqL.of S5.sa⟩, _, rfl, ra, _, _, _, rfl, rfl, SqL.of hra5, at_some (k := 0) (by omega) (by omega), _, rfl, _, rfl, _, _, rfl, rfl, (show (0 : Int) < p by omega), sa, _, _, rfl, rfl, S5.sa, (by rw [List.length_map]; exact small1000 (by omega)), ?_⟩
            have S6 := S5.updS N5 (sp5 ++ [-(half.getD 0 0) % p])
            rw [List.map_append] at S6
            refine ⟨hs6.upd hsa _, sp5 ++ [-(half.getD 0 0) % p], rfl, S6, fun a => ?_⟩
            rw [if_pos hl2, e2, List.count_append]
          · have d' : ¬ (half.length : Int) = 2 := of_decide_eq_false (Bool.eq_false_iff.mpr d)
            exact ⟨hs6, sp5, rfl, S5, fun a => by rw [if_neg (by omega)]; rfl⟩
        rintro σ H6 ⟨hs7, sp6, rfl, S6, hc6⟩
        have hra6 := hra _ _ _ _ S6
        refine ⟨_, rfl, ra, _, rfl, .inl (SqL.of hra6), _, _, rfl, rfl, _, rfl, ?_⟩
        rw [hhl]
        refine ite2 (fun d => ?_) (fun d => ?_)
        · have d' : (2 : Int) < (half.length : Int) := of_decide_eq_true d
          have hfl5 := fl_len (p := p) lg5 fun g hg => ⟨(hpl5 g hg).1.full, (hpl5 g hg).1.long (Nat.succ_pos sh)⟩
          have hll := S6.ls.len
          refine ⟨_, rfl, .inl ⟨rfl, _, SqL.of S6.la⟩, _, rfl, la, _, _, rfl, rfl, S6.la, (by rw [List.length_map]; exact small1000 (by omega)), ?_⟩
          refine ⟨hs7.upd hlaH _, ls5 ++ [ra], lg5 ++ [half], sp6, _, rfl, S6.updL N5 hra6 hral, fun a ha => ?_, fun g hg => ?_, fun a => ?_⟩
          · rcases List.mem_append.mp ha with h' | h'
            · exact hls5 a h'
            · have e : a = ra := by simpa using h'
              rw [e]
              exact ⟨hras, hral⟩
          · rcases List.mem_append.mp hg with h' | h'
            · exact hpl5 g h'
            · have e : g = half := by simpa using h'
              rw [e]
              exact ⟨hpi.half Fhf (by omega) bb hbb, hlh⟩
          · have c1 := hcnt5 a
            have c2 := hc6 a
            rw [if_neg (by omega)] at c2
            rw [fl_append, fl_one]
            rw [fl_cons] at c1
            simp only [List.count_append] at c1 c2 ⊢
            omega
        · have d' : ¬ (2 : Int) < (half.length : Int) := of_decide_eq_false (Bool.eq_false_iff.mpr d)
          refine ⟨hs7, ls5, lg5, sp6, _, rfl, S6, hls5, hpl5, fun a => ?_⟩
          have c1 := hcnt5 a
          have c2 := hc6 a
          rw [fl_cons] at c1
          simp only [List.count_append] at c1 ⊢
          by_cases e : half.length = 2
          · rw [if_pos e] at c2
            omega
          · rw [if_neg e] at c2
            have e0 := full_one Fhf (by omega)
            rw [e0, List.count_nil] at c1
            omega
      · rintro σ H5 ⟨hs6, ls5, lg5, sp5, y7', rfl, S5, hls5, hpl5, hcnt5⟩
        refine ⟨hs6, ls5, lg5, sp5, _, _, rfl, S5.pa, S5.as, S5.sa, S5.la, S5.ls, hls5, hpl5, fun a => ?_⟩
        have c1 := hcnt5 a
        have e : fl p (([h, k] : List (List Int)).drop 2) = [] := rfl
        have c1' : (sp5 ++ fl p lg5 ++ fl p (([h, k] : List (List Int)).drop 2) ++ fl p (gs.drop (i + 1))).count a = AA.count a := c1
        rw [e, List.append_nil] at c1'
        exact c1'
    · rintro σ H3 ⟨hs3, ls, lg, sp3, y6, y7, rfl, hpa3, hRw3, hsp3, hla3, hRl3, hls3, hpl3, hcnt3⟩
      refine ⟨_, rfl, _, rfl, _, _, rfl, rfl, (p - ((sh + 1 : Nat) : Int)).toNat, (by omega), hs3, la, ls, lg, sp3, sh + 1, some (.ref la), y6, y7, rfl, (by omega), ?_, hls, fun a ha => (hls3 a ha).1, hsp3, hla3, hRl3, hpl3, fun a => ?_⟩
      · rw [show ((sh + 1 : Nat) : Int) = (sh : Int) + 1 by omega]
        rfl
      · have c := hcnt3 a
        rw [List.length_map, hal, List.drop_length] at c
        have c' : (sp3 ++ fl p lg ++ []).count a = AA.count a := c
        rwa [List.append_nil] at c'
  · have d' : ¬ (0 : Int) < (gs.length : Int) := of_decide_eq_false (Bool.eq_false_iff.mpr d)
    have hgs : gs = [] := List.length_eq_zero_iff.mp (by omega)
    subst hgs
    have hcnt' : ∀ a, sp.count a = AA.count a := fun a => by
      have c : (sp ++ []).count a = AA.count a := hcnt a
      rwa [List.append_nil] at c
    have hperm : sp.Perm AA := List.perm_iff_count.mpr hcnt'
    have hnd : AA.Nodup := by rw [← hAA]; exact rts_nodup p ns
    have hspl := hperm.length_eq
    refine ⟨_, rfl, sa, sp, rfl, SqL.of hsp, (by omega), fun l ms hl' hpm' hsrt => ?_⟩
    have hp2 := hpm'.trans hperm
    refine q l ms _ (hs2.trans (same_new hl' _)) upd_same (strict hsrt (hp2.nodup_iff.mpr hnd)) fun a => ?_
    rw [hAA]
    exact hp2.mem_iff
def lin (p : Int) (s : Int) : List Int := [-s % p, 1]
def piL (p : Int) : List (Int × Int) → List Int
  | [] => [1]
  | xy :: r => mulL (powL (lin p xy.1) xy.2.toNat) (piL p r)
theorem piL_snoc (p : Int) (xy : Int × Int) : ∀ (l : List (Int × Int)) (k : Nat), cf (piL p (l ++ [xy])) k = cf (mulL (piL p l) (powL (lin p xy.1) xy.2.toNat)) k
  | [], k => by
    show cf (mulL (powL (lin p xy.1) xy.2.toNat) [1]) k = cf (mulL [1] (powL (lin p xy.1) xy.2.toNat)) k
    rw [mulL_one, cf_mulL, cm_one]
  | a :: r, k => by
    show cf (mulL (powL (lin p a.1) a.2.toNat) (piL p (r ++ [xy]))) k = cf (mulL (mulL (powL (lin p a.1) a.2.toNat) (piL p r)) (powL (lin p xy.1) xy.2.toNat)) k
    rw [mulL_assoc]
    exact mulL_congr_right _ (piL_snoc p xy r) k
theorem ev_lin0 {p s : Int} : p ∣ ev s (lin p s) := by
  unfold lin
  rw [ev_lin]
  have := emod_dvd p (-s)
  rwa [show -s % p - -s = -s % p + s by omega] at this
theorem ev_lin1 {p s a : Int} (h : p ∣ ev a (lin p s)) : p ∣ a - s := by
  unfold lin at h
  rw [ev_lin] at h
  have := Int.dvd_sub h (emod_dvd p (-s))
  rwa [show -s % p + a - (-s % p - -s) = a - s by omega] at this
theorem ev_pow_not {p a s : Int} (P : Pr p) (h : ¬ p ∣ a - s) : ∀ n, ¬ p ∣ ev a (powL (lin p s) n)
  | 0, z => by
    have p2 := P.lo
    rw [show powL (lin p s) 0 = [1] from rfl, ev_one] at z
    have := Int.le_of_dvd (by omega) z
    omega
  | n + 1, z => by
    rw [show powL (lin p s) (n + 1) = mulL (powL (lin p s) n) (lin p s) from rfl, ev_mulL] at z
    rcases P.euclid z with q | q
    · exact ev_pow_not P h n q
    · exact h (ev_lin1 q)
theorem ev_piL_not {p a : Int} (P : Pr p) : ∀ l : List (Int × Int), (∀ xy ∈ l, ¬ p ∣ a - xy.1) → ¬ p ∣ ev a (piL p l)
  | [], _, z => by
    have p2 := P.lo
    rw [show piL p [] = [1] from rfl, ev_one] at z
    have := Int.le_of_dvd (by omega) z
    omega
  | xy :: r, h, z => by
    rw [show piL p (xy :: r) = mulL (powL (lin p xy.1) xy.2.toNat) (piL p r) from rfl, ev_mulL] at z
    rcases P.euclid z with q | q
    · exact ev_pow_not P (h xy List.mem_cons_self) _ q
    · exact ev_piL_not P r (fun uv huv => h uv (List.mem_cons_of_mem _ huv)) q
theorem lin_row {p s : Int} (P : Pr p) : Row p (lin p s) := by
  have := P.lo
  exact x_row P (Int.emod_nonneg _ (by omega)) (Int.emod_lt_of_pos _ (by omega))
def tsum : List (Int × Int) → Nat
  | [] => 0
  | xy :: r => xy.2.toNat + tsum r
theorem tsum_snoc (xy : Int × Int) : ∀ l, tsum (l ++ [xy]) = tsum l + xy.2.toNat
  | [] => by simp [tsum]
  | a :: r => by
    show a.2.toNat + tsum (r ++ [xy]) = a.2.toNat + tsum r + xy.2.toNat
    rw [tsum_snoc xy r]
    omega
abbrev s_roots : Stmt := top 55
theorem sc_roots : FnScope ["prime", "row", "found", "left", "spot", "times"] ["prime", "row"] (defScope s_roots) := ⟨rfl, rfl, rfl, by decide +kernel, rfl, by decide +kernel, by decide +kernel⟩
structure RtRes (p : Int) (ns : List Int) (prs : List (Int × Int)) (lf : List Int) : Prop where
  row : Row p lf
  ne : lf ≠ []
  eq : Mth.Eq p (cf ns) (cf (mulL lf (piL p prs)))
  ups : (prs.map Prod.fst).Pairwise (· < ·)
  bnd : ∀ xy ∈ prs, 0 ≤ xy.1 ∧ xy.1 < p ∧ 1 ≤ xy.2 ∧ xy.2 ≤ (ns.length : Int)
  no : ∀ a, 0 ≤ a → a < p → ¬ p ∣ ev a lf
  tot : lf.length + tsum prs ≤ ns.length
def spRoots (K : PySem.W.Frag) : Sp := fun vs H Q _ => ∃ (p : Int) (b : Addr) (ns : List Int), vs = [.int p, .ref b] ∧ Pr p ∧ H b = some (.lst (ns.map V.int)) ∧ Row p ns ∧ ns ≠ [] ∧ ns.length ≤ 60 ∧
  ∀ t r1 r2 (ts : List Addr) (prs : List (Int × Int)) (lf : List Int) H', Same H H' → H' t = some (.tup [.ref r1, .ref r2]) → H' r1 = some (.lst (ts.map V.ref)) → Pts H' ts prs → H' r2 = some (.lst (lf.map V.int)) → RtRes p ns prs lf → Q (.ref t) H'
theorem ok_roots {n : Nat} {f f1 f2 f3 f4 f5 f6 : Addr} {fd d1 d2 d3 d4 d5 d6 : FuncData} (F : Fun K "roots" "roots" s_roots f fd) (T : Txt K mg) (D_check_prime : Df K mg "check_prime" f1 d1 ["prime"]) (G_check_prime : FnOk P w K mg base CX0 n f1 d1 ["prime"] spCkPrime)
    (D_check_row : Df K mg "check_row" f2 d2 ["prime", "row"]) (G_check_row : FnOk P w K mg base CX0 n f2 d2 ["prime", "row"] (spCkRow K))
    (D_spots_of : Df K mg "spots_of" f3 d3 ["prime", "row"]) (G_spots_of : FnOk P w K mg base CX0 n f3 d3 ["prime", "row"] spSpotsOf)
    (D_worth_of : Df K mg "worth_of" f4 d4 ["prime", "numbers", "spot"]) (G_worth_of : FnOk P w K mg base CX0 n f4 d4 ["prime", "numbers", "spot"] (spValue K))
    (D_parts_of : Df K mg "parts_of" f5 d5 ["prime", "one", "two"]) (G_parts_of : FnOk P w K mg base CX0 n f5 d5 ["prime", "one", "two"] (spParts K))
    (D_nought_at : Df K mg "nought_at" f6 d6 ["prime", "spot"]) (G_nought_at : FnOk P w K mg base CX0 n f6 d6 ["prime", "spot"] spNought) :
    FnOk P w K mg base CX0 (n + 1) f fd ["prime", "row"] (spRoots K) := by
  refine F.ok sc_roots (fun vs H Q E h => ?_) (fun cdv A outer s H vs Q E hr h => ?_)
  · obtain ⟨p, b, ns, rfl, _⟩ := h
    rfl
  obtain ⟨p, b, ns, rfl, hp, hH, hR, hne, hl, q⟩ := h
  have hp0 := hp.lo
  have hpm := hp.hi
  have hn0 : 0 < ns.length := List.length_pos_iff.mpr hne
  refine ⟨_, (pss_cons (ps_expr (pcall D_check_prime G_check_prime hr (pa_cons (pv 0) pa_nil)))
    (pss_cons (ps_expr (pcall D_check_row G_check_row hr (pa_cons (pv 0) (pa_cons (pv 1) pa_nil))))
    (pss_cons (ps_if (pt_cmpR op_eqI (pe_callB call_len_seq rfl T.len bt_len (pa_cons (pv 1) pa_nil)) pe_int (nomark _)) (pss_one ps_never) pss_nil)
    (pss_cons (ps_set (i := 2) sc_roots.nd rfl (Or.inl rfl) (pe_lst pa_nil))
    (pss_cons (ps_set (i := 3) sc_roots.nd rfl (Or.inl rfl) (pe_callTy call_list_of rfl T.list bt_list (pa_cons (pv 1) pa_nil)))
    (pss_cons (ps_for PassesOwn.never rfl (pi_list (pcall D_spots_of G_spots_of hr (pa_cons (pv 0) (pa_cons (pv 1) pa_nil)))) (pg_name (i := 4) sc_roots.nd rfl (Or.inl rfl)) (pss_cons (ps_set (i := 5) sc_roots.nd rfl (Or.inl rfl) pe_int)
    (pss_cons (ps_while PassesOwn.never (pt_cmpR op_eqI (pcall D_worth_of G_worth_of hr (pa_cons (pv 0) (pa_cons (pv 3) (pa_cons (pv 4) pa_nil)))) pe_int (nomark _)) (pss_cons (ps_set (i := 3) sc_roots.nd rfl (Or.inl rfl) (pe_ix ix_tup (pcall D_parts_of G_parts_of hr (pa_cons (pv 0) (pa_cons (pv 3) (pa_cons (pcall D_nought_at G_nought_at hr (pa_cons (pv 0) (pa_cons (pv 4) pa_nil))) pa_nil)))) pe_int (fun _ _ => rfl)))
    (pss_one (ps_aug (i := 5) sc_roots.nd rfl (Or.inl rfl) pe_int ip_add))))
    (pss_one (ps_expr (pe_bm PySem.F.plainAttrs_list PySem.F.slot_list_append PySem.F.type_list_append mt_append (pv 2) (pa_cons (pe_tup (pa_cons (pv 4) (pa_cons (pv 5) pa_nil))) pa_nil)))))))
    (pss_one (ps_ret (pe_tup (pa_cons (pv 2) (pa_cons (pv 3) pa_nil))))))))))), ?_⟩
  refine ⟨_, rfl, p, rfl, hp, _, rfl, _, rfl, p, b, ns, rfl, SqL.of hH, hR, ?_⟩
  refine ⟨_, rfl, b, _, rfl, .inl (SqL.of hH), _, _, rfl, rfl, _, rfl, iteB (decide_eq_false (by rw [List.length_map]; omega)) ?_⟩
  refine ⟨(by show 0 ≤ sizeLine; decide), fun fa hfa => ?_⟩
  have s1 := same_new hfa (.lst ([] : List V))
  refine ⟨_, rfl, b, _, rfl, .inl (SqL.of (s1 _ _ hH)), fun la0 hla0 => ?_⟩
  have s2 := same_new hla0 (.lst (ns.map V.int))
  refine ⟨_, rfl, _, rfl, p, b, ns, rfl, hp, (s1.trans s2) _ _ hH, hR, hne, hl, fun sl ms H1 s3 hsl hstr hmem => ?_⟩
  have t3 := (s1.trans s2).trans s3
  have hbd : ∀ a ∈ ms, (0 ≤ a ∧ a < p) ∧ p ∣ ev a ns := fun a ha => rts_mem.mp ((hmem a).mp ha)
  have hfa1 := s3 _ _ (s2 _ _ (upd_same (H := H) (a := fa) (o := .lst ([] : List V))))
  refine ⟨sl, rfl, ⟨_, SqL.of hsl⟩, for_list (xs := ms.map V.int) (fun i σ H' => Same H H' ∧ H' sl = some (.lst (ms.map V.int)) ∧ ∃ (la : Addr) (lf : List Int) (ts : List Addr) (prs : List (Int × Int)) (x4 x5 : Option V), σ = [some (.int p), some (.ref b), some (.ref fa), some (.ref la), x4, x5] ∧ H' la = some (.lst (lf.map V.int)) ∧ H' fa = some (.lst (ts.map V.ref)) ∧ Pts H' ts prs ∧ la ≠ fa ∧ Row p lf ∧ lf ≠ [] ∧ lf.length + tsum prs ≤ ns.length ∧ Mth.Eq p (cf ns) (cf (mulL lf (piL p prs))) ∧ prs.map Prod.fst = ms.take i ∧ (∀ xy ∈ prs, 1 ≤ xy.2 ∧ xy.2 ≤ (ns.length : Int)) ∧ ∀ a ∈ ms.take i, ¬ p ∣ ev a lf)
    ⟨t3, hsl, la0, ns, [], [], none, none, rfl, s3 _ _ upd_same, hfa1, .nil, ?_, hR, hne, Nat.le_refl _, (Eq.of fun k => (mulL_one ns k).symm), rfl, (fun xy h => absurd h List.not_mem_nil), (fun a h => absurd h (by simp))⟩ (fun i σ H' _ h => SqL.of h.2.1) ?_ ?_⟩
  · exact (ne_of_none upd_same hla0).symm
  · rintro i x σ H2 hx ⟨hs2, hsl2, la, lf, ts, prs, x4, x5, rfl, hla, hfa2, hPt, hlaf, hRl, hlne, hll, heq, hfst, hb2, hno⟩
    obtain ⟨z, rfl, hz⟩ := int_at hx
    have hi : i < ms.length := (List.getElem?_eq_some_iff.mp hz).1
    have hzm := List.mem_of_getElem? hz
    obtain ⟨hzb, hzr⟩ := hbd z hzm
    have hz0 : p ∣ ev z lf := by
      rcases (root_prod (a := z) hp (h := lf) (k := piL p prs) (heq.trans (Eq.of fun k => cf_mulL _ _ k))).mp hzr with h | h
      · exact h
      · refine absurd h (ev_piL_not hp prs fun xy hxy hd => ?_)
        have hx1 : xy.1 ∈ ms.take i := by rw [← hfst]; exact List.mem_map_of_mem hxy
        have hb1 := (hbd xy.1 (List.mem_of_mem_take hx1)).1
        have e := rem_eq hd hzb.1 hzb.2 hb1.1 hb1.2
        have e2 : ms = ms.take i ++ z :: ms.drop (i + 1) := by
          conv => lhs; rw [← List.take_append_drop i ms]
          rw [List.drop_eq_getElem_cons hi, (List.getElem?_eq_some_iff.mp hz).2]
        have h3 := hstr
        rw [e2] at h3
        have h4 := (List.pairwise_append.mp h3).2.2 xy.1 hx1 z List.mem_cons_self
        omega
    refine while_n (fun m σ H' => Same H H' ∧ H' sl = some (.lst (ms.map V.int)) ∧ ∃ (la : Addr) (lf2 : List Int) (t : Nat), m = lf2.length ∧ σ = [some (.int p), some (.ref b), some (.ref fa), some (.ref la), some (.int z), some (.int (t : Int))] ∧ H' la = some (.lst (lf2.map V.int)) ∧ H' fa = some (.lst (ts.map V.ref)) ∧ Pts H' ts prs ∧ la ≠ fa ∧ Row p lf2 ∧ lf2 ≠ [] ∧ lf2.length + t + tsum prs ≤ ns.length ∧ Mth.Eq p (cf ns) (cf (mulL lf2 (mulL (piL p prs) (powL (lin p z) t)))) ∧ (∀ a ∈ ms.take i, ¬ p ∣ ev a lf2) ∧ (t = 0 → p ∣ ev z lf2))
      ⟨lf.length, hs2, hsl2, la, lf, 0, rfl, rfl, hla, hfa2, hPt, hlaf, hRl, hlne, (by omega), heq.trans (Eq.of fun k => mulL_congr_right lf (fun j => (mulL_one (piL p prs) j).symm) k), hno, fun _ => hz0⟩ ?_
    rintro m σ H3 ⟨hs3, hsl3, la, lf2, t, rfl, rfl, hla3, hfa3, hPt3, hlaf3, hR3, hne3, hlen3, heq3, hno3, hfirst⟩
    refine ⟨_, rfl, _, rfl, _, rfl, p, la, lf2, z, rfl, hp, SqL.of hla3, hR3.all, hzb.1, hzb.2, _, _, rfl, rfl, _, rfl, ?_⟩
    refine ite2 (fun d => ?_) (fun d => ?_)
    · have d' : ev z lf2 % p = 0 := of_decide_eq_true d
      have hdv := Int.dvd_of_emod_eq_zero d'
      have hl2 : 2 ≤ lf2.length := by
        by_cases c : 2 ≤ lf2.length
        · exact c
        · exfalso
          have h1 : 0 < lf2.length := List.length_pos_iff.mpr hne3
          match lf2, h1, c with
          | [c0], _, _ =>
            have e : ev z [c0] = c0 := by simp [ev]
            rw [e] at hdv
            have := row_top hR3 hne3
            have hc : 0 < c0 ∧ c0 < p := this
            have := Int.le_of_dvd hc.1 hdv
            omega
          | a :: b :: r, _, c => exact c (by simp)
      refine ⟨fun σ' H' => ∃ m', m' < lf2.length ∧ (Same H H' ∧ H' sl = some (.lst (ms.map V.int)) ∧ ∃ (la : Addr) (lf2 : List Int) (t : Nat), m' = lf2.length ∧ σ' = [some (.int p), some (.ref b), some (.ref fa), some (.ref la), some (.int z), some (.int (t : Int))] ∧ H' la = some (.lst (lf2.map V.int)) ∧ H' fa = some (.lst (ts.map V.ref)) ∧ Pts H' ts prs ∧ la ≠ fa ∧ Row p lf2 ∧ lf2 ≠ [] ∧ lf2.length + t + tsum prs ≤ ns.length ∧ Mth.Eq p (cf ns) (cf (mulL lf2 (mulL (piL p prs) (powL (lin p z) t)))) ∧ (∀ a ∈ ms.take i, ¬ p ∣ ev a lf2) ∧ (t = 0 → p ∣ ev z lf2)), fun _ _ h => h, ?_⟩
      refine ⟨_, rfl, _, rfl, _, rfl, _, rfl, p, z, rfl, (by omega), fun nb hnb => ?_⟩
      have s4 := same_new hnb (.lst (([-z % p, 1] : List Int).map V.int))
      refine ⟨p, la, nb, lf2, lin p z, rfl, hp, SqL.of (s4 _ _ hla3), SqL.of upd_same, hR3, lin_row hp, (by simp [lin]), (by omega), (by simp [lin]), fun tt r1 r2 qs rs H4 e1 e2 e3 e4 e5 e6 e7 e8 e9 f1 _ => ?_⟩
      refine ⟨tt, _, _, _, rfl, rfl, SqT.of e2, rfl, ?_⟩
      have hrs : rs = [] := by
        have h1 : rs.length ≤ 1 := by
          have : (lin p z).length = 2 := rfl
          omega
        match rs, h1, e6, e9 with
        | [], _, _, _ => rfl
        | [c0], _, hrow, he =>
          exfalso
          have h2 := ev_congr (p := p) (z := z) (xs := lf2) (ys := addL (mulL qs (lin p z)) [c0]) (Mth.Eq.trans he (Eq.of fun k => by rw [cf_addL, cf_mulL]))
          rw [ev_addL, ev_mulL] at h2
          have h3 : p ∣ ev z qs * ev z (lin p z) := Int.dvd_mul_of_dvd_right ev_lin0
          have e : ev z [c0] = c0 := by simp [ev]
          rw [e] at h2
          have h4 := Int.dvd_neg.mpr (Int.dvd_sub (Int.dvd_add h2 h3) hdv)
          rw [show -(ev z lf2 - (ev z qs * ev z (lin p z) + c0) + ev z qs * ev z (lin p z) - ev z lf2) = c0 by omega] at h4
          have hc : 0 < c0 ∧ c0 < p := row_top hrow (by simp)
          have := Int.le_of_dvd hc.1 h4
          omega
        | _ :: _ :: _, h, _, _ => simp at h
      subst hrs
      have hq : Mth.Eq p (cf lf2) (cf (mulL qs (lin p z))) := fun k => by
        have a : p ∣ cf lf2 k - (cm qs (cf (lin p z)) k + cf [] k) := e9 k
        rw [cf_nil, Int.add_zero] at a
        rw [cf_mulL]
        exact a
      have hql : qs.length = lf2.length - 1 := by
        have : (lin p z).length = 2 := rfl
        omega
      have hqne : qs ≠ [] := fun e => by
        rw [e] at hql
        simp at hql
        omega
      have hfa4 := e1 _ _ (s4 _ _ hfa3)
      refine ⟨_, rfl, _, _, rfl, rfl, qs.length, (by omega), (hs3.trans s4).trans e1, e1 _ _ (s4 _ _ hsl3), r1, qs, t + 1, rfl, ?_, e3, hfa4, (hPt3.same s4).same e1, ?_, e5, hqne, (by omega), ?_, fun a ha hd => ?_, fun h => absurd h (Nat.succ_ne_zero t)⟩
      · rw [show ((t + 1 : Nat) : Int) = (t : Int) + 1 by omega]
        rfl
      · exact (ne_of_none (s4 _ _ hfa3) f1).symm
      · refine heq3.trans ((Eq.of fun k => cf_mulL _ _ k).trans ((Eq.cmL hq _).trans (Eq.of fun k => ?_)))
        rw [← cf_mulL, mulL_assoc]
        refine mulL_congr_right qs (fun j => ?_) k
        show cf (mulL (lin p z) (mulL (piL p prs) (powL (lin p z) t))) j = cf (mulL (piL p prs) (mulL (powL (lin p z) t) (lin p z))) j
        exact ((cf_mulL _ _ j).trans ((cm_comm _ _ j).trans (cf_mulL _ _ j).symm)).trans (mulL_assoc _ _ _ j)
      · exact hno3 a ha ((root_prod (a := a) hp (h := qs) (k := lin p z) (hq.trans (Eq.of fun k => cf_mulL _ _ k))).mpr (.inl hd))
    · have d' : ¬ ev z lf2 % p = 0 := of_decide_eq_false (Bool.eq_false_iff.mpr d)
      have hnz : ¬ p ∣ ev z lf2 := fun h => d' (Int.emod_eq_zero_of_dvd h)
      have ht1 : 1 ≤ t := by
        by_cases c : t = 0
        · exact absurd (hfirst c) hnz
        · omega
      have htl := hPt3.len
      have hpl : prs.length = i := by
        have := congrArg List.length hfst
        rw [List.length_map, List.length_take] at this
        omega
      have hmsl : ms.length ≤ 60 := by
        have h1 : ms.length ≤ (rts p ns).length := by
          refine len_of_count _ _ fun a => ?_
          have n1 : ms.Nodup := List.Pairwise.imp (fun h e => by omega) hstr
          rw [n1.count, (rts_nodup p ns).count]
          by_cases c : a ∈ ms
          · rw [if_pos c, if_pos ((hmem a).mp c)]
            exact Nat.le_refl _
          · rw [if_neg c]
            exact Nat.zero_le _
        have h2 := rts_le hp hR hne
        omega
      refine ⟨_, rfl, .inl ⟨rfl, _, SqL.of hfa3⟩, _, rfl, _, rfl, (by show 2 ≤ sizeLine; decide), fun pt hpt => ?_⟩
      have s4 := same_new hpt (.tup [.int z, .int (t : Int)])
      have hfa4 := s4 _ _ hfa3
      refine ⟨fa, _, _, rfl, rfl, hfa4, (by rw [List.length_map]; exact small1000 (by omega)), ?_⟩
      refine ⟨(hs3.trans s4).upd hfa _, ?_, la, lf2, ts ++ [pt], prs ++ [(z, (t : Int))], _, _, rfl, ?_, ?_, ?_, hlaf3, hR3, hne3, (by rw [tsum_snoc]; show lf2.length + (tsum prs + ((t : Int)).toNat) ≤ ns.length; omega), ?_, ?_, fun xy hxy => ?_, fun a ha => ?_⟩
      · rw [upd_ne]
        · exact s4 _ _ hsl3
        · intro e
          rw [e, hfa3] at hsl3
          simp only [Option.some.injEq, HO.lst.injEq] at hsl3
          have hts : ts ≠ [] := fun z => by
            rw [z] at hsl3
            have := congrArg List.length hsl3
            rw [List.length_map, List.length_map, List.length_nil] at this
            omega
          exact ints_ne_refs hts hsl3.symm
      · rw [upd_ne hlaf3]
        exact s4 _ _ hla3
      · rw [upd_same, List.map_append]
        rfl
      · refine Pts.snoc (xy := (z, (t : Int))) ?_ (Pts.upd hfa4 (hPt3.same s4))
        rw [upd_ne (ne_of_none hfa3 hpt).symm]
        exact upd_same
      · refine heq3.trans (Eq.of fun k => mulL_congr_right lf2 (fun j => ?_) k)
        exact (piL_snoc p (z, (t : Int)) prs j).symm
      · rw [List.map_append, hfst, List.take_succ, hz]
        rfl
      · rcases List.mem_append.mp hxy with h | h
        · exact hb2 xy h
        · have e : xy = (z, (t : Int)) := by simpa using h
          rw [e]
          exact ⟨by show (1 : Int) ≤ (t : Int); omega, by show (t : Int) ≤ (ns.length : Int); omega⟩
      · rw [List.take_succ, hz] at ha
        rcases List.mem_append.mp ha with h | h
        · exact hno3 a h
        · have e : a = z := by simpa using h
          rw [e]
          exact hnz
  · rintro σ H2 ⟨hs2, hsl2, la, lf, ts, prs, x4, x5, rfl, hla, hfa2, hPt, hlaf, hRl, hlne, hll, heq, hfst, hb2, hno⟩
    rw [List.length_map, List.take_length] at hfst hno
    refine ⟨_, rfl, _, rfl, (by show 2 ≤ sizeLine; decide), fun t ht => ?_⟩
    have s3 := same_new ht (.tup [V.ref fa, V.ref la])
    refine q t fa la ts prs lf _ (hs2.trans s3) upd_same (s3 _ _ hfa2) (hPt.same s3) (s3 _ _ hla) ⟨hRl, hlne, heq, by rw [hfst]; exact hstr, fun xy hxy => ?_, fun a h0 h1 hd => ?_, hll⟩
    · have hm : xy.1 ∈ ms := by rw [← hfst]; exact List.mem_map_of_mem hxy
      have := (hbd _ hm).1
      have := hb2 xy hxy
      exact ⟨by omega, by omega, by omega, by omega⟩
    · have hroot : p ∣ ev a ns := (root_prod (a := a) hp (h := lf) (k := piL p prs) (heq.trans (Eq.of fun k => cf_mulL _ _ k))).mpr (.inl hd)
      exact hno a ((hmem a).mpr (rts_mem.mpr ⟨⟨h0, h1⟩, hroot⟩)) hd
theorem spots_read {H : Hp} : ∀ {ts : List Addr} {pts : List (Int × Int)} {ys : List V}, Pts H ts pts → Paired (fun x y => ∃ (t : Addr) (xy : Int × Int), x = .ref t ∧ H t = some (.tup [.int xy.1, .int xy.2]) ∧ y = .int xy.1) (ts.map V.ref) ys → ys = (pts.map Prod.fst).map V.int
  | _, _, _, .nil, .nil => rfl
  | t :: ts, xy :: pts, _, .cons h r, .cons f tl => by
    obtain ⟨t', xy', e1, e2, e3⟩ := f
    cases e1
    have h' : H t = some (.tup [.int xy.1, .int xy.2]) := h
    rw [h'] at e2
    simp only [Option.some.injEq, HO.tup.injEq, List.cons.injEq, V.int.injEq, and_true] at e2
    rw [e3, ← e2.1, spots_read r tl]
    rfl
abbrev s_check_points : Stmt := top 40
theorem sc_check_points : FnScope ["prime", "points", "point", "spots"] ["prime", "points"] (defScope s_check_points) := ⟨rfl, rfl, rfl, by decide +kernel, rfl, by decide +kernel, by decide +kernel⟩
def spCkPoints (K : PySem.W.Frag) : Sp := fun vs H Q _ => ∃ (p : Int) (a : Addr) (ts : List Addr) (pts : List (Int × Int)), vs = [.int p, .ref a] ∧ SqL K H a (ts.map V.ref) ∧ Pts H ts pts ∧ GoodPts p 0 pts ∧ pts.length ≤ 200 ∧ ∀ H', Same H H' → Q .non H'
theorem ok_check_points {n : Nat} {f f1 : Addr} {fd d1 : FuncData} (F : Fun K "check_points" "check_points" s_check_points f fd) (T : Txt K mg) (D_check_remainder : Df K mg "check_remainder" f1 d1 ["prime", "number"]) (G_check_remainder : FnOk P w K mg base CX0 n f1 d1 ["prime", "number"] spCkRem) :
    FnOk P w K mg base CX0 (n + 1) f fd ["prime", "points"] (spCkPoints K) := by
  refine F.ok sc_check_points (fun vs H Q E h => ?_) (fun cdv A outer s H vs Q E hr h => ?_)
  · obtain ⟨p, a, ts, pts, rfl, _⟩ := h
    rfl
  obtain ⟨p, a, ts, pts, rfl, hS, hP, hG, hl, q⟩ := h
  have htl := hP.len
  have hml : (ts.map V.ref).length = ts.length := List.length_map _
  have hfl : (pts.map Prod.fst).length = pts.length := List.length_map _
  refine ⟨_, (pss_cons (ps_for PassesOwn.never rfl (pi_list (pv 1)) (pg_name (i := 2) sc_check_points.nd rfl (Or.inl rfl)) (pss_cons (ps_expr (pcall D_check_remainder G_check_remainder hr (pa_cons (pv 0) (pa_cons (pe_ix ix_tup (pv 2) pe_int (fun _ _ => rfl)) pa_nil))))
    (pss_one (ps_expr (pcall D_check_remainder G_check_remainder hr (pa_cons (pv 0) (pa_cons (pe_ix ix_tup (pv 2) pe_int (fun _ _ => rfl)) pa_nil)))))))
    (pss_cons (ps_setComp (i := 3) sc_check_points.nd rfl (Or.inl rfl) (N' := ["point"]) (js := [none]) (compOk_of rfl) rfl (pi_list (pv 1)) (fun _ _ _ _ => (pg_name (i := 0) (show (["point"] : List Str).Nodup by decide +kernel) rfl (Or.inl rfl) (Or.inr rfl))) (fun _ _ _ _ => pif_nil) (fun _ _ _ _ => (pe_ix (r := rIxT K) ix_tup (pv 0) pe_int (fun _ _ => rfl))))
    (pss_one (ps_if (pt_cmpR op_lt (pe_callB call_lenSet rfl T.len bt_len (pa_cons (pe_callTy (call_set_of rfl) rfl T.set bt_set (pa_cons (pv 3) pa_nil)) pa_nil)) (pe_callB call_len_seq rfl T.len bt_len (pa_cons (pv 3) pa_nil)) (nomark _)) (pss_one ps_never) pss_nil)))), ?_⟩
  refine ⟨_, rfl, a, rfl, ⟨_, hS⟩, for_list (xs := ts.map V.ref) (fun i σ H' => H = H' ∧ ∃ x, σ = [some (.int p), some (.ref a), x, none]) ⟨rfl, _, rfl⟩ (fun i σ H' _ h => h.1 ▸ hS) ?_ ?_⟩
  · rintro i x σ H' hx ⟨e, x0, rfl⟩
    subst e
    obtain ⟨t, xy, rfl, hxy, ht⟩ := hP.get hx
    have hb := hG.1 xy (List.mem_of_getElem? hxy)
    exact ⟨_, rfl, _, rfl, t, _, _, _, rfl, rfl, SqT.of ht, rfl, p, xy.1, rfl, hb.1, hb.2.1, _, rfl, _, rfl, t, _, _, _, rfl, rfl, SqT.of ht, rfl, p, xy.2, rfl, hb.2.2.1, hb.2.2.2, rfl, _, rfl⟩
  rintro σ H' ⟨e, x, rfl⟩
  subst e
  refine ⟨_, rfl, a, rfl, ⟨_, hS⟩, fun D hD => ?_⟩
  refine comp_all (xs := ts.map V.ref) hD (by rw [hml]; exact Nat.le_of_lt (small1000 (by omega))) (fun x y => ∃ (t : Addr) (xy : Int × Int), x = .ref t ∧ H t = some (.tup [.int xy.1, .int xy.2]) ∧ y = .int xy.1) (itl_go hS) ?_ ?_
  · intro x H1 R hx hs z
    obtain ⟨i, hi⟩ := List.mem_iff_getElem?.mp hx
    obtain ⟨t, xy, rfl, _, ht⟩ := hP.get hi
    exact ⟨_, rfl, t, _, _, _, rfl, rfl, SqT.of (hs _ _ ht), rfl, z _ _ (Same.refl _) ⟨t, xy, rfl, ht, rfl⟩⟩
  · intro ys H1 hF hs hDy
    have hys := spots_read hP hF
    subst hys
    have hmet := (mets_iff (pts.map Prod.fst)).mpr hG.2
    refine ⟨_, rfl, D, pts.map Prod.fst, rfl, SqL.of hDy, (by rw [hfl]; omega), fun l hl' => ?_⟩
    refine ⟨l, _, _, rfl, upd_same, (by rw [hmet, hfl]; exact Nat.le_of_lt (small1000 (by omega))), _, rfl, D, _, rfl, .inl (SqL.of ((same_new hl' _) _ _ hDy)), _, _, rfl, rfl, _, rfl, ?_⟩
    rw [List.length_map, decide_eq_false (by rw [hmet]; omega)]
    exact iteF (q _ (hs.trans (same_new hl' _)))
theorem GoodPts.low {p : Int} {pts : List (Int × Int)} (h : GoodPts p 1 pts) : GoodPts p 0 pts := ⟨fun xy hxy => ⟨by have := (h.1 xy hxy).1; omega, (h.1 xy hxy).2⟩, h.2⟩
abbrev s_check_shares : Stmt := top 45
theorem sc_check_shares : FnScope ["prime", "shares", "share"] ["prime", "shares"] (defScope s_check_shares) := ⟨rfl, rfl, rfl, by decide +kernel, rfl, by decide +kernel, by decide +kernel⟩
def spCkShares (K : PySem.W.Frag) : Sp := fun vs H Q _ => ∃ (p : Int) (a : Addr) (ts : List Addr) (pts : List (Int × Int)), vs = [.int p, .ref a] ∧ SqL K H a (ts.map V.ref) ∧ Pts H ts pts ∧ GoodPts p 1 pts ∧ pts.length ≤ 200 ∧ ∀ H', Same H H' → Q .non H'
theorem ok_check_shares {n : Nat} {f f1 : Addr} {fd d1 : FuncData} (F : Fun K "check_shares" "check_shares" s_check_shares f fd) (T : Txt K mg) (D_check_points : Df K mg "check_points" f1 d1 ["prime", "points"]) (G_check_points : FnOk P w K mg base CX0 n f1 d1 ["prime", "points"] (spCkPoints K)) :
    FnOk P w K mg base CX0 (n + 1) f fd ["prime", "shares"] (spCkShares K) := by
  refine F.ok sc_check_shares (fun vs H Q E h => ?_) (fun cdv A outer s H vs Q E hr h => ?_)
  · obtain ⟨p, a, ts, pts, rfl, _⟩ := h
    rfl
  obtain ⟨p, a, ts, pts, rfl, hS, hP, hG, hl, q⟩ := h
  refine ⟨_, (pss_cons (ps_for PassesOwn.never rfl (pi_list (pv 1)) (pg_name (i := 2) sc_check_shares.nd rfl (Or.inl rfl)) (pss_one (ps_if (pt_cmpR op_eqI (pe_ix ix_tup (pv 2) pe_int (fun _ _ => rfl)) pe_int (nomark _)) (pss_one ps_never) pss_nil)))
    (pss_one (ps_expr (pcall D_check_points G_check_points hr (pa_cons (pv 0) (pa_cons (pv 1) pa_nil)))))), ?_⟩
  refine ⟨_, rfl, a, rfl, ⟨_, hS⟩, for_list (xs := ts.map V.ref) (fun i σ H' => H = H' ∧ ∃ x, σ = [some (.int p), some (.ref a), x]) ⟨rfl, _, rfl⟩ (fun i σ H' _ h => h.1 ▸ hS) ?_ ?_⟩
  · rintro i x σ H' hx ⟨e, x0, rfl⟩
    subst e
    obtain ⟨t, xy, rfl, hxy, ht⟩ := hP.get hx
    have hb := hG.1 xy (List.mem_of_getElem? hxy)
    exact ⟨_, rfl, t, _, _, _, rfl, rfl, SqT.of ht, rfl, _, _, rfl, rfl, _, rfl, iteB (decide_eq_false (by omega)) ⟨rfl, _, rfl⟩⟩
  rintro σ H' ⟨e, x, rfl⟩
  subst e
  exact ⟨_, rfl, _, rfl, p, a, ts, pts, rfl, hS, hP, hG.low, hl, q⟩
abbrev s_led_through : Stmt := top 41
theorem sc_led_through : FnScope ["prime", "row", "still", "point", "off", "factor"] ["prime", "row", "still", "point"] (defScope s_led_through) := ⟨rfl, rfl, rfl, by decide +kernel, rfl, by decide +kernel, by decide +kernel⟩
def spLed (K : PySem.W.Frag) : Sp := fun vs H Q _ => ∃ (p : Int) (a b t : Addr) (rs ss : List Int) (x y : Int), vs = [.int p, .ref a, .ref b, .ref t] ∧ Pr p ∧ SqL K H a (rs.map V.int) ∧ SqL K H b (ss.map V.int) ∧ H t = some (.tup [.int x, .int y]) ∧ Row p rs ∧ Row p ss ∧ rs.length ≤ 400 ∧ ss.length ≤ 400 ∧ 0 ≤ x ∧ x < p ∧ 0 ≤ y ∧ y < p ∧ ¬ p ∣ ev x ss ∧
  ∀ r (row : List Int) (c : Int) H', Same H H' → H' r = some (.lst (row.map V.int)) → Row p row → row.length ≤ max rs.length ss.length → Mth.Eq p (cf row) (fun k => cf rs k + c * cf ss k) → ev x row % p = y → Q (.ref r) H'
theorem ok_led_through {n : Nat} {f f1 f2 f3 f4 : Addr} {fd d1 d2 d3 d4 : FuncData} (F : Fun K "led_through" "led_through" s_led_through f fd) (T : Txt K mg) (D_worth_of : Df K mg "worth_of" f1 d1 ["prime", "numbers", "spot"]) (G_worth_of : FnOk P w K mg base CX0 n f1 d1 ["prime", "numbers", "spot"] (spValue K))
    (D_inverse_of : Df K mg "inverse_of" f2 d2 ["prime", "number"]) (G_inverse_of : FnOk P w K mg base CX0 n f2 d2 ["prime", "number"] spInvOf)
    (D_sum_of : Df K mg "sum_of" f3 d3 ["prime", "one", "two"]) (G_sum_of : FnOk P w K mg base CX0 n f3 d3 ["prime", "one", "two"] (spSumOf K))
    (D_multiple_of : Df K mg "multiple_of" f4 d4 ["prime", "row", "factor"]) (G_multiple_of : FnOk P w K mg base CX0 n f4 d4 ["prime", "row", "factor"] (spMultiple K)) :
    FnOk P w K mg base CX0 (n + 1) f fd ["prime", "row", "still", "point"] (spLed K) := by
  refine F.ok sc_led_through (fun vs H Q E h => ?_) (fun cdv A outer s H vs Q E hr h => ?_)
  · obtain ⟨p, a, b, t, rs, ss, x, y, rfl, _⟩ := h
    rfl
  obtain ⟨p, a, b, t, rs, ss, x, y, rfl, hp, hSa, hSb, ht, hRa, hRb, hla, hlb, x0, x1, y0, y1, hnz, q⟩ := h
  have hp0 := hp.lo
  have hpm := hp.hi
  have w0 := Int.emod_nonneg (ev x ss) (show p ≠ 0 by omega)
  have w1 := Int.emod_lt_of_pos (ev x ss) (show 0 < p by omega)
  have wn : ev x ss % p ≠ 0 := fun z => hnz (Int.dvd_of_emod_eq_zero z)
  have v0 := Int.emod_nonneg (ev x rs) (show p ≠ 0 by omega)
  have v1 := Int.emod_lt_of_pos (ev x rs) (show 0 < p by omega)
  refine ⟨_, (pss_cons (ps_set (i := 4) sc_led_through.nd rfl (Or.inl rfl) (pe_op op_sub (pe_ix ix_tup (pv 3) pe_int (fun _ _ => rfl)) (pcall D_worth_of G_worth_of hr (pa_cons (pv 0) (pa_cons (pv 1) (pa_cons (pe_ix ix_tup (pv 3) pe_int (fun _ _ => rfl)) pa_nil))))))
    (pss_cons (ps_set (i := 5) sc_led_through.nd rfl (Or.inl rfl) (pe_op op_mul (pv 4) (pcall D_inverse_of G_inverse_of hr (pa_cons (pv 0) (pa_cons (pcall D_worth_of G_worth_of hr (pa_cons (pv 0) (pa_cons (pv 2) (pa_cons (pe_ix ix_tup (pv 3) pe_int (fun _ _ => rfl)) pa_nil)))) pa_nil)))))
    (pss_one (ps_ret (pcall D_sum_of G_sum_of hr (pa_cons (pv 0) (pa_cons (pv 1) (pa_cons (pcall D_multiple_of G_multiple_of hr (pa_cons (pv 0) (pa_cons (pv 2) (pa_cons (pv 5) pa_nil)))) pa_nil)))))))), ?_⟩
  refine ⟨_, rfl, t, _, _, _, rfl, rfl, SqT.of ht, rfl, _, rfl, _, rfl, _, rfl, t, _, _, _, rfl, rfl, SqT.of ht, rfl, p, a, rs, x, rfl, hp, hSa, hRa.all, x0, x1, _, _, rfl, rfl, ?_⟩
  refine ⟨_, rfl, _, rfl, _, rfl, _, rfl, _, rfl, t, _, _, _, rfl, rfl, SqT.of ht, rfl, p, b, ss, x, rfl, hp, hSb, hRb.all, x0, x1, p, _, rfl, hp, (by omega), w1, fun g g0 g1 hg => ?_⟩
  refine ⟨_, _, rfl, rfl, .inl ⟨by omega, by omega⟩, ?_⟩
  refine ⟨_, rfl, _, rfl, _, rfl, _, rfl, _, rfl, p, b, ss, _, rfl, (by omega), hpm, hSb, hRb.all, (by omega), fun m H1 hs1 hm1 _ => ?_⟩
  have hml := mulC_len p ((y - ev x rs % p) * g) ss
  refine ⟨p, a, m, rs, mulC p ((y - ev x rs % p) * g) ss, rfl, (by omega), hs1.seq hSa, SqL.of hm1, (by omega), (by omega), fun r H2 hs2 hr2 _ => ?_⟩
  have he := led_eq (p := p) ((y - ev x rs % p) * g) rs ss
  refine q r (addR p rs (mulC p ((y - ev x rs % p) * g) ss)) ((y - ev x rs % p) * g) H2 (hs1.trans hs2) hr2 (addR_row (by omega)) ?_ he (led_at (by omega) y0 y1 hg he)
  have := addR_len p rs (mulC p ((y - ev x rs % p) * g) ss)
  omega
abbrev s_rows_of : Stmt := top 42
theorem sc_rows_of : FnScope ["prime", "points", "rows", "still", "point"] ["prime", "points"] (defScope s_rows_of) := ⟨rfl, rfl, rfl, by decide +kernel, rfl, by decide +kernel, by decide +kernel⟩
def spRowsOf (K : PySem.W.Frag) : Sp := fun vs H Q _ => ∃ (p : Int) (a : Addr) (ts : List Addr) (pts : List (Int × Int)), vs = [.int p, .ref a] ∧ Pr p ∧ SqL K H a (ts.map V.ref) ∧ Pts H ts pts ∧ GoodPts p 0 pts ∧ pts.length ≤ 200 ∧
  ∀ R (as : List Addr) (rows : List (List Int)) H', Same H H' → H' R = some (.lst (as.map V.ref)) → Rws H' as rows → rows.length = pts.length + 1 → (∀ j, j ≤ pts.length → Thru p (pts.take j) (rows.getD j [])) → Q (.ref R) H'
theorem ok_rows_of {n : Nat} {f f1 f2 f3 : Addr} {fd d1 d2 d3 : FuncData} (F : Fun K "rows_of" "rows_of" s_rows_of f fd) (T : Txt K mg) (D_led_through : Df K mg "led_through" f1 d1 ["prime", "row", "still", "point"]) (G_led_through : FnOk P w K mg base CX0 n f1 d1 ["prime", "row", "still", "point"] (spLed K))
    (D_product_of : Df K mg "product_of" f2 d2 ["prime", "one", "two"]) (G_product_of : FnOk P w K mg base CX0 n f2 d2 ["prime", "one", "two"] (spMulOf K))
    (D_nought_at : Df K mg "nought_at" f3 d3 ["prime", "spot"]) (G_nought_at : FnOk P w K mg base CX0 n f3 d3 ["prime", "spot"] spNought) :
    FnOk P w K mg base CX0 (n + 1) f fd ["prime", "points"] (spRowsOf K) := by
  refine F.ok sc_rows_of (fun vs H Q E h => ?_) (fun cdv A outer s H vs Q E hr h => ?_)
  · obtain ⟨p, a, ts, pts, rfl, _⟩ := h
    rfl
  obtain ⟨p, a, ts, pts, rfl, hp, hS, hP, hG, hl, q⟩ := h
  have hp0 := hp.lo
  have hpm := hp.hi
  have htl := hP.len
  have hml : (ts.map V.ref).length = ts.length := List.length_map _
  refine ⟨_, (pss_cons (ps_set (i := 2) sc_rows_of.nd rfl (Or.inl rfl) (pe_lst (pa_cons (pe_lst pa_nil) pa_nil)))
    (pss_cons (ps_set (i := 3) sc_rows_of.nd rfl (Or.inl rfl) (pe_lst (pa_cons pe_int pa_nil)))
    (pss_cons (ps_for PassesOwn.never rfl (pi_list (pv 1)) (pg_name (i := 4) sc_rows_of.nd rfl (Or.inl rfl)) (pss_cons (ps_expr (pe_bm PySem.F.plainAttrs_list PySem.F.slot_list_append PySem.F.type_list_append mt_append (pv 2) (pa_cons (pcall D_led_through G_led_through hr (pa_cons (pv 0) (pa_cons (pe_ix ix_list (pv 2) (pe_un un_neg pe_int) (fun _ _ => rfl)) (pa_cons (pv 3) (pa_cons (pv 4) pa_nil))))) pa_nil)))
    (pss_one (ps_set (i := 3) sc_rows_of.nd rfl (Or.inl rfl) (pcall D_product_of G_product_of hr (pa_cons (pv 0) (pa_cons (pv 3) (pa_cons (pcall D_nought_at G_nought_at hr (pa_cons (pv 0) (pa_cons (pe_ix ix_tup (pv 4) pe_int (fun _ _ => rfl)) pa_nil))) pa_nil))))))))
    (pss_one (ps_ret (pv 2)))))), ?_⟩
  refine ⟨(by show 0 ≤ sizeLine; decide), fun e0 he0 => ⟨(by show 1 ≤ sizeLine; decide), fun R hR => ?_⟩⟩
  have s1 := same_new he0 (.lst ([] : List V))
  have s2 := same_new hR (.lst [V.ref e0])
  refine ⟨(by show 1 ≤ sizeLine; decide), fun b hb => ?_⟩
  have s3 := same_new hb (.lst [V.int 1])
  have hRH : H R = none := s1.free hR
  refine ⟨_, rfl, a, rfl, ⟨_, ((s1.trans s2).trans s3).seq hS⟩, for_list (xs := ts.map V.ref) (fun i σ H' => Same H H' ∧ ∃ (as : List Addr) (rows : List (List Int)) (b : Addr) (ss : List Int) (x4 : Option V), σ = [some (.int p), some (.ref a), some (.ref R), some (.ref b), x4] ∧ H' R = some (.lst (as.map V.ref)) ∧ Rws H' as rows ∧ rows.length = i + 1 ∧ (∀ j, j ≤ i → Thru p (pts.take j) (rows.getD j [])) ∧ H' b = some (.lst (ss.map V.int)) ∧ Still p (pts.take i) ss)
    ⟨(s1.trans s2).trans s3, [e0], [[]], b, [1], none, rfl, s3 _ _ upd_same, .cons (s3 _ _ (s2 _ _ upd_same)) .nil, rfl, ?_, upd_same, Still.nil hp⟩ (fun i σ H' _ h => h.1.seq hS) ?_ ?_⟩
  · intro j hj
    have : j = 0 := by omega
    subst this
    exact Thru.nil p
  · rintro i x σ H1 hx ⟨hs1, as, rows, b, ss, x4, rfl, hR1, hRw, hrl, hT, hb1, hSt⟩
    obtain ⟨t, xy, rfl, hxy, ht⟩ := (hP.same hs1).get hx
    have hi : i < pts.length := (List.getElem?_eq_some_iff.mp hxy).1
    have hbd := hG.1 xy (List.mem_of_getElem? hxy)
    have hal := hRw.len
    obtain ⟨la, hla, hlr⟩ := hRw.get i (by omega)
    have hne : as ≠ [] := fun z => by rw [z] at hal; simp at hal; omega
    have hTi := hT i (Nat.le_refl _)
    have htk : (pts.take i).length = i := by rw [List.length_take]; omega
    have hl1 := hTi.2.1
    have hl2 := hSt.len
    have hnz := hSt.off xy.1 (apart_at hG.2 (fun uv huv => ⟨(hG.1 uv huv).1, (hG.1 uv huv).2.1⟩) hxy)
    refine ⟨_, rfl, .inl ⟨rfl, _, SqL.of hR1⟩, _, rfl, _, rfl, _, rfl, R, _, _, _, rfl, rfl, SqL.of hR1, at_lastR (by rw [hal, hrl]; exact hla), _, rfl, _, rfl, p, la, b, t, rows.getD i [], ss, xy.1, xy.2, rfl, hp, SqL.of hlr, SqL.of hb1, ht, hTi.1, hSt.row, (by omega), (by omega), hbd.1, hbd.2.1, hbd.2.2.1, hbd.2.2.2, hnz, fun r row c H2 hs2 hr2 hrow hlen heq hev => ?_⟩
    have hR2 := hs2 _ _ hR1
    have hrR : r ≠ R := fun e => by
      rw [e, hR2] at hr2
      simp only [Option.some.injEq, HO.lst.injEq] at hr2
      exact ints_ne_refs hne hr2.symm
    have hbR : b ≠ R := fun e => by
      have hb2 := hs2 _ _ hb1
      rw [e, hR2] at hb2
      simp only [Option.some.injEq, HO.lst.injEq] at hb2
      exact ints_ne_refs hne hb2.symm
    have htR : t ≠ R := fun e => by
      rw [e, hR1] at ht
      cases ht
    refine ⟨R, _, _, rfl, rfl, hR2, (by rw [List.length_map]; exact small1000 (by omega)), ?_⟩
    have hb3 : L2.upd H2 R (.lst (as.map V.ref ++ [V.ref r])) b = some (.lst (ss.map V.int)) := by rw [upd_ne hbR]; exact hs2 _ _ hb1
    have ht3 : L2.upd H2 R (.lst (as.map V.ref ++ [V.ref r])) t = some (.tup [.int xy.1, .int xy.2]) := by rw [upd_ne htR]; exact hs2 _ _ ht
    refine ⟨_, rfl, _, rfl, _, rfl, _, rfl, t, _, _, _, rfl, rfl, SqT.of ht3, rfl, p, xy.1, rfl, (by omega), fun nb hnb => ?_⟩
    have s4 := same_new hnb (.lst (([-xy.1 % p, 1] : List Int).map V.int))
    refine ⟨p, b, nb, ss, [-xy.1 % p, 1], rfl, (by omega), hpm, SqL.of (s4 _ _ hb3), SqL.of upd_same, hSt.row.all, (by omega), (by simp), fun b2 H5 hs5 hb5 _ => ?_⟩
    have s45 := s4.trans hs5
    refine ⟨((hs1.trans hs2).upd hRH _).trans s45, as ++ [r], rows ++ [row], b2, mulR p ss [-xy.1 % p, 1], _, rfl, ?_, ?_, ?_, ?_, hb5, ?_⟩
    · rw [List.map_append]
      exact s45 _ _ upd_same
    · refine Rws.same s45 (Rws.snoc ?_ (Rws.upd hR2 hne (hRw.same hs2)))
      rw [upd_ne hrR]
      exact hr2
    · rw [List.length_append, hrl]
      rfl
    · intro j hj
      by_cases hji : j ≤ i
      · rw [getD_old (by omega)]
        exact hT j hji
      · have ej : j = i + 1 := by omega
        rw [getD_new (by omega), ej, take_snoc hxy]
        exact thru_next (c := c) (fun uv huv => ⟨(hG.1 uv (List.mem_of_mem_take huv)).2.2.1, (hG.1 uv (List.mem_of_mem_take huv)).2.2.2⟩) hTi hSt hrow hlen heq hev
    · rw [take_snoc hxy]
      exact still_next hp hSt
  · rintro σ H1 ⟨hs1, as, rows, b, ss, x4, rfl, hR1, hRw, hrl, hT, hb1, hSt⟩
    rw [hml, htl] at hrl hT
    exact ⟨_, rfl, q R as rows H1 hs1 hR1 hRw hrl hT⟩
abbrev s_added : Stmt := top 29
theorem sc_added : FnScope ["prime", "one", "two"] ["prime", "one", "two"] (defScope s_added) := ⟨rfl, rfl, rfl, by decide +kernel, rfl, by decide +kernel, by decide +kernel⟩
def spAdded (K : PySem.W.Frag) : Sp := fun vs H Q _ => ∃ (p : Int) (a b : Addr) (ns ms : List Int), vs = [.int p, .ref a, .ref b] ∧ Pr p ∧ SqL K H a (ns.map V.int) ∧ SqL K H b (ms.map V.int) ∧ Row p ns ∧ Row p ms ∧ ns.length ≤ 500 ∧ ms.length ≤ 500 ∧
  ∀ r H', Same H H' → H' r = some (.lst ((trim ((List.range (max ns.length ms.length)).map fun k => (ns.getD k 0 + ms.getD k 0) % p)).map V.int)) → Q (.ref r) H'
theorem ok_added {n : Nat} {f fc fs : Addr} {fd cd sd : FuncData} (F : Fun K "added" "added" s_added f fd) (T : Txt K mg) (D_check_rows : Df K mg "check_rows" fc cd ["prime", "one", "two"]) (G_check_rows : FnOk P w K mg base CX0 n fc cd ["prime", "one", "two"] (spCkRows K))
    (D_sum_of : Df K mg "sum_of" fs sd ["prime", "one", "two"]) (G_sum_of : FnOk P w K mg base CX0 n fs sd ["prime", "one", "two"] (spSumOf K)) :
    FnOk P w K mg base CX0 (n + 1) f fd ["prime", "one", "two"] (spAdded K) := by
  refine F.ok sc_added (fun vs H Q E h => ?_) (fun cdv A outer s H vs Q E hr h => ?_)
  · obtain ⟨p, a, b, ns, ms, rfl, _⟩ := h
    rfl
  obtain ⟨p, a, b, ns, ms, rfl, hp, hSa, hSb, hRa, hRb, hla, hlb, q⟩ := h
  refine ⟨_, (pss_cons (ps_expr (pcall D_check_rows G_check_rows hr (pa_cons (pv 0) (pa_cons (pv 1) (pa_cons (pv 2) pa_nil)))))
    (pss_one (ps_ret (pcall D_sum_of G_sum_of hr (pa_cons (pv 0) (pa_cons (pv 1) (pa_cons (pv 2) pa_nil))))))), ?_⟩
  exact ⟨_, rfl, _, rfl, _, rfl, p, a, b, ns, ms, rfl, hp, hSa, hSb, hRa, hRb, _, rfl, _, rfl, _, rfl, p, a, b, ns, ms, rfl, (by have := hp.lo; omega), hSa, hSb, hla, hlb, fun r H' e1 e2 _ => q r H' e1 e2⟩
abbrev s_lessened : Stmt := top 30
theorem sc_lessened : FnScope ["prime", "one", "two"] ["prime", "one", "two"] (defScope s_lessened) := ⟨rfl, rfl, rfl, by decide +kernel, rfl, by decide +kernel, by decide +kernel⟩
def spLessened (K : PySem.W.Frag) : Sp := fun vs H Q _ => ∃ (p : Int) (a b : Addr) (ns ms : List Int), vs = [.int p, .ref a, .ref b] ∧ Pr p ∧ SqL K H a (ns.map V.int) ∧ SqL K H b (ms.map V.int) ∧ Row p ns ∧ Row p ms ∧ ns.length ≤ 500 ∧ ms.length ≤ 500 ∧
  ∀ r H', Same H H' → H' r = some (.lst ((trim ((List.range (max ns.length ms.length)).map fun k => (ns.getD k 0 - ms.getD k 0) % p)).map V.int)) → Q (.ref r) H'
theorem ok_lessened {n : Nat} {f fc fs : Addr} {fd cd sd : FuncData} (F : Fun K "lessened" "lessened" s_lessened f fd) (T : Txt K mg) (D_check_rows : Df K mg "check_rows" fc cd ["prime", "one", "two"]) (G_check_rows : FnOk P w K mg base CX0 n fc cd ["prime", "one", "two"] (spCkRows K))
    (D_difference_of : Df K mg "difference_of" fs sd ["prime", "one", "two"]) (G_difference_of : FnOk P w K mg base CX0 n fs sd ["prime", "one", "two"] (spDiffOf K)) :
    FnOk P w K mg base CX0 (n + 1) f fd ["prime", "one", "two"] (spLessened K) := by
  refine F.ok sc_lessened (fun vs H Q E h => ?_) (fun cdv A outer s H vs Q E hr h => ?_)
  · obtain ⟨p, a, b, ns, ms, rfl, _⟩ := h
    rfl
  obtain ⟨p, a, b, ns, ms, rfl, hp, hSa, hSb, hRa, hRb, hla, hlb, q⟩ := h
  refine ⟨_, (pss_cons (ps_expr (pcall D_check_rows G_check_rows hr (pa_cons (pv 0) (pa_cons (pv 1) (pa_cons (pv 2) pa_nil)))))
    (pss_one (ps_ret (pcall D_difference_of G_difference_of hr (pa_cons (pv 0) (pa_cons (pv 1) (pa_cons (pv 2) pa_nil))))))), ?_⟩
  exact ⟨_, rfl, _, rfl, _, rfl, p, a, b, ns, ms, rfl, hp, hSa, hSb, hRa, hRb, _, rfl, _, rfl, _, rfl, p, a, b, ns, ms, rfl, (by have := hp.lo; omega), hSa, hSb, hla, hlb, fun r H' e1 e2 _ => q r H' e1 e2⟩
abbrev s_multiplied : Stmt := top 31
theorem sc_multiplied : FnScope ["prime", "one", "two"] ["prime", "one", "two"] (defScope s_multiplied) := ⟨rfl, rfl, rfl, by decide +kernel, rfl, by decide +kernel, by decide +kernel⟩
theorem ok_multiplied {n : Nat} {f fc fs : Addr} {fd cd sd : FuncData} (F : Fun K "multiplied" "multiplied" s_multiplied f fd) (T : Txt K mg) (D_check_rows : Df K mg "check_rows" fc cd ["prime", "one", "two"]) (G_check_rows : FnOk P w K mg base CX0 n fc cd ["prime", "one", "two"] (spCkRows K))
    (D_product_of : Df K mg "product_of" fs sd ["prime", "one", "two"]) (G_product_of : FnOk P w K mg base CX0 n fs sd ["prime", "one", "two"] (spMulOf K)) :
    FnOk P w K mg base CX0 (n + 1) f fd ["prime", "one", "two"] (spMul K) := by
  refine F.ok sc_multiplied (fun vs H Q E h => ?_) (fun cdv A outer s H vs Q E hr h => ?_)
  · obtain ⟨p, a, b, ns, ms, rfl, _⟩ := h
    rfl
  obtain ⟨p, a, b, ns, ms, rfl, hp, hSa, hSb, hRa, hRb, hla, hlb, q⟩ := h
  refine ⟨_, (pss_cons (ps_expr (pcall D_check_rows G_check_rows hr (pa_cons (pv 0) (pa_cons (pv 1) (pa_cons (pv 2) pa_nil)))))
    (pss_one (ps_ret (pcall D_product_of G_product_of hr (pa_cons (pv 0) (pa_cons (pv 1) (pa_cons (pv 2) pa_nil))))))), ?_⟩
  exact ⟨_, rfl, _, rfl, _, rfl, p, a, b, ns, ms, rfl, hp, hSa, hSb, hRa, hRb, _, rfl, _, rfl, _, rfl, p, a, b, ns, ms, rfl, (by have := hp.lo; omega), hp.hi, hSa, hSb, hRa.all, hla, hlb, fun r H' e1 e2 _ => q r H' e1 e2⟩
def spSplit (K : PySem.W.Frag) : Sp := fun vs H Q _ => ∃ (p : Int) (a b : Addr) (ns ms : List Int), vs = [.int p, .ref a, .ref b] ∧ Pr p ∧ SqL K H a (ns.map V.int) ∧ SqL K H b (ms.map V.int) ∧ Row p ns ∧ Row p ms ∧ ms ≠ [] ∧ ns.length ≤ 200 ∧ ms.length ≤ 200 ∧
  ∀ t r1 r2 (qs rs : List Int) H', Same H H' → H' t = some (.tup [.ref r1, .ref r2]) → H' r1 = some (.lst (qs.map V.int)) → H' r2 = some (.lst (rs.map V.int)) → Row p qs → Row p rs → rs.length < ms.length → qs.length ≤ ns.length →
    Mth.Eq p (cf ns) (fun k => cm qs (cf ms) k + cf rs k) → Q (.ref t) H'
def spDivides (K : PySem.W.Frag) : Sp := fun vs H Q _ => ∃ (p : Int) (a b : Addr) (ms ns : List Int), vs = [.int p, .ref a, .ref b] ∧ Pr p ∧ SqL K H a (ms.map V.int) ∧ SqL K H b (ns.map V.int) ∧ Row p ms ∧ Row p ns ∧ ns.length ≤ 200 ∧ ms.length ≤ 200 ∧
  ∀ (t : Bool) H', Same H H' → (t = true ↔ Dvs p ms ns) → Q (.bl t) H'
abbrev s_split : Stmt := top 35
theorem sc_split : FnScope ["prime", "one", "two"] ["prime", "one", "two"] (defScope s_split) := ⟨rfl, rfl, rfl, by decide +kernel, rfl, by decide +kernel, by decide +kernel⟩
theorem ok_split {n : Nat} {f f1 f2 : Addr} {fd d1 d2 : FuncData} (F : Fun K "split" "split" s_split f fd) (T : Txt K mg) (D_check_rows : Df K mg "check_rows" f1 d1 ["prime", "one", "two"]) (G_check_rows : FnOk P w K mg base CX0 n f1 d1 ["prime", "one", "two"] (spCkRows K))
    (D_parts_of : Df K mg "parts_of" f2 d2 ["prime", "one", "two"]) (G_parts_of : FnOk P w K mg base CX0 n f2 d2 ["prime", "one", "two"] (spParts K)) :
    FnOk P w K mg base CX0 (n + 1) f fd ["prime", "one", "two"] (spSplit K) := by
  refine F.ok sc_split (fun vs H Q E h => ?_) (fun cdv A outer s H vs Q E hr h => ?_)
  · obtain ⟨p, a, b, ns, ms, rfl, _⟩ := h
    rfl
  obtain ⟨p, a, b, ns, ms, rfl, hp, hSa, hSb, hRa, hRb, hne, hla, hlb, q⟩ := h
  have hm0 : 0 < ms.length := List.length_pos_iff.mpr hne
  refine ⟨_, (pss_cons (ps_expr (pcall D_check_rows G_check_rows hr (pa_cons (pv 0) (pa_cons (pv 1) (pa_cons (pv 2) pa_nil)))))
    (pss_cons (ps_if (pt_cmpR op_eqI (pe_callB call_len_seq rfl T.len bt_len (pa_cons (pv 2) pa_nil)) pe_int (nomark _)) (pss_one ps_never) pss_nil)
    (pss_one (ps_ret (pcall D_parts_of G_parts_of hr (pa_cons (pv 0) (pa_cons (pv 1) (pa_cons (pv 2) pa_nil)))))))), ?_⟩
  refine ⟨_, rfl, _, rfl, _, rfl, p, a, b, ns, ms, rfl, hp, hSa, hSb, hRa, hRb, ?_⟩
  refine ⟨_, rfl, b, _, rfl, .inl hSb, _, _, rfl, rfl, _, rfl, iteB (decide_eq_false (by rw [List.length_map]; omega)) ?_⟩
  exact ⟨_, rfl, _, rfl, _, rfl, p, a, b, ns, ms, rfl, hp, hSa, hSb, hRa, hRb, hne, (by omega), (by omega), fun t r1 r2 qs rs H' e1 e2 e3 e4 e5 e6 e7 e8 e9 _ _ => q t r1 r2 qs rs H' e1 e2 e3 e4 e5 e6 e7 (by omega) e9⟩
abbrev s_divides : Stmt := top 36
theorem sc_divides : FnScope ["prime", "one", "two"] ["prime", "one", "two"] (defScope s_divides) := ⟨rfl, rfl, rfl, by decide +kernel, rfl, by decide +kernel, by decide +kernel⟩
theorem ok_divides {n : Nat} {f f1 f2 : Addr} {fd d1 d2 : FuncData} (F : Fun K "divides" "divides" s_divides f fd) (T : Txt K mg) (D_check_rows : Df K mg "check_rows" f1 d1 ["prime", "one", "two"]) (G_check_rows : FnOk P w K mg base CX0 n f1 d1 ["prime", "one", "two"] (spCkRows K))
    (D_parts_of : Df K mg "parts_of" f2 d2 ["prime", "one", "two"]) (G_parts_of : FnOk P w K mg base CX0 n f2 d2 ["prime", "one", "two"] (spParts K)) :
    FnOk P w K mg base CX0 (n + 1) f fd ["prime", "one", "two"] (spDivides K) := by
  refine F.ok sc_divides (fun vs H Q E h => ?_) (fun cdv A outer s H vs Q E hr h => ?_)
  · obtain ⟨p, a, b, ms, ns, rfl, _⟩ := h
    rfl
  obtain ⟨p, a, b, ms, ns, rfl, hp, hSa, hSb, hRa, hRb, hla, hlb, q⟩ := h
  have hp0 := hp.lo
  refine ⟨_, (pss_cons (ps_expr (pcall D_check_rows G_check_rows hr (pa_cons (pv 0) (pa_cons (pv 1) (pa_cons (pv 2) pa_nil)))))
    (pss_cons (ps_if (pt_cmpR op_eqI (pe_callB call_len_seq rfl T.len bt_len (pa_cons (pv 1) pa_nil)) pe_int (nomark _)) (pss_one (ps_ret (pe_cmpR op_eqI (pe_callB call_len_seq rfl T.len bt_len (pa_cons (pv 2) pa_nil)) pe_int (nomark _)))) pss_nil)
    (pss_one (ps_ret (pe_cmpR op_eqI (pe_callB call_len_seq rfl T.len bt_len (pa_cons (pe_ix ix_tup (pcall D_parts_of G_parts_of hr (pa_cons (pv 0) (pa_cons (pv 2) (pa_cons (pv 1) pa_nil)))) pe_int (fun _ _ => rfl)) pa_nil)) pe_int (nomark _)))))), ?_⟩
  refine ⟨_, rfl, _, rfl, _, rfl, p, a, b, ms, ns, rfl, hp, hSa, hSb, hRa, hRb, ?_⟩
  refine ⟨_, rfl, a, _, rfl, .inl hSa, _, _, rfl, rfl, _, rfl, ?_⟩
  rw [List.length_map]
  refine ite2 (fun d => ?_) (fun d => ?_)
  · have d' : ((ms.length : Nat) : Int) = 0 := of_decide_eq_true d
    have e : ms = [] := List.length_eq_zero_iff.mp (by omega)
    refine ⟨_, rfl, b, _, rfl, .inl hSb, _, _, rfl, rfl, ?_⟩
    refine q _ H (Same.refl H) ?_
    rw [e, dvs_nil (by omega) hRb, decide_eq_true_eq, List.length_map]
    exact ⟨fun z => List.length_eq_zero_iff.mp (by omega), fun z => by rw [z]; rfl⟩
  · have d' : ¬ ((ms.length : Nat) : Int) = 0 := of_decide_eq_false (Bool.eq_false_iff.mpr d)
    have hne : ms ≠ [] := fun e => d' (by rw [e]; rfl)
    refine ⟨_, rfl, _, rfl, _, rfl, p, b, a, ns, ms, rfl, hp, hSb, hSa, hRb, hRa, hne, (by omega), (by omega), fun t r1 r2 qs rs H' e1 e2 e3 e4 e5 e6 e7 e8 e9 _ _ => ?_⟩
    refine ⟨t, _, _, _, rfl, rfl, SqT.of e2, rfl, r2, _, rfl, .inl (SqL.of e4), _, _, rfl, rfl, ?_⟩
    refine q _ H' e1 ?_
    rw [dvs_iff hp hRa e6 e7 e9, decide_eq_true_eq, List.length_map]
    exact ⟨fun z => List.length_eq_zero_iff.mp (by omega), fun z => by rw [z]; rfl⟩
abbrev s_common : Stmt := top 38
theorem sc_common : FnScope ["prime", "one", "two"] ["prime", "one", "two"] (defScope s_common) := ⟨rfl, rfl, rfl, by decide +kernel, rfl, by decide +kernel, by decide +kernel⟩
theorem ok_common {n : Nat} {f f1 f2 : Addr} {fd d1 d2 : FuncData} (F : Fun K "common" "common" s_common f fd) (T : Txt K mg) (D_check_rows : Df K mg "check_rows" f1 d1 ["prime", "one", "two"]) (G_check_rows : FnOk P w K mg base CX0 n f1 d1 ["prime", "one", "two"] (spCkRows K))
    (D_common_of : Df K mg "common_of" f2 d2 ["prime", "one", "two"]) (G_common_of : FnOk P w K mg base CX0 n f2 d2 ["prime", "one", "two"] spCommonOf) :
    FnOk P w K mg base CX0 (n + 1) f fd ["prime", "one", "two"] spCommonOf := by
  refine F.ok sc_common (fun vs H Q E h => ?_) (fun cdv A outer s H vs Q E hr h => ?_)
  · obtain ⟨p, a, b, ns, ms, rfl, _⟩ := h
    rfl
  obtain ⟨p, a, b, ns, ms, rfl, hp, hHa, hHb, hRa, hRb, hla, hlb, q⟩ := h
  refine ⟨_, (pss_cons (ps_expr (pcall D_check_rows G_check_rows hr (pa_cons (pv 0) (pa_cons (pv 1) (pa_cons (pv 2) pa_nil)))))
    (pss_one (ps_ret (pcall D_common_of G_common_of hr (pa_cons (pv 0) (pa_cons (pv 1) (pa_cons (pv 2) pa_nil))))))), ?_⟩
  exact ⟨_, rfl, _, rfl, _, rfl, p, a, b, ns, ms, rfl, hp, SqL.of hHa, SqL.of hHb, hRa, hRb, _, rfl, _, rfl, _, rfl, p, a, b, ns, ms, rfl, hp, hHa, hHb, hRa, hRb, hla, hlb, q⟩
abbrev s_worth : Stmt := top 32
theorem sc_worth : FnScope ["prime", "row", "spot"] ["prime", "row", "spot"] (defScope s_worth) := ⟨rfl, rfl, rfl, by decide +kernel, rfl, by decide +kernel, by decide +kernel⟩
theorem ok_worth {n : Nat} {f f1 f2 f3 f4 : Addr} {fd d1 d2 d3 d4 : FuncData} (F : Fun K "worth" "worth" s_worth f fd) (T : Txt K mg) (D_check_prime : Df K mg "check_prime" f1 d1 ["prime"]) (G_check_prime : FnOk P w K mg base CX0 n f1 d1 ["prime"] spCkPrime)
    (D_check_row : Df K mg "check_row" f2 d2 ["prime", "row"]) (G_check_row : FnOk P w K mg base CX0 n f2 d2 ["prime", "row"] (spCkRow K)) (D_check_remainder : Df K mg "check_remainder" f3 d3 ["prime", "number"]) (G_check_remainder : FnOk P w K mg base CX0 n f3 d3 ["prime", "number"] spCkRem)
    (D_worth_of : Df K mg "worth_of" f4 d4 ["prime", "numbers", "spot"]) (G_worth_of : FnOk P w K mg base CX0 n f4 d4 ["prime", "numbers", "spot"] (spValue K)) :
    FnOk P w K mg base CX0 (n + 1) f fd ["prime", "row", "spot"] (spWorth K) := by
  refine F.ok sc_worth (fun vs H Q E h => ?_) (fun cdv A outer s H vs Q E hr h => ?_)
  · obtain ⟨p, a, ns, s, rfl, _⟩ := h
    rfl
  obtain ⟨p, a, ns, z, rfl, hp, hS, hR, z0, z1, q⟩ := h
  refine ⟨_, (pss_cons (ps_expr (pcall D_check_prime G_check_prime hr (pa_cons (pv 0) pa_nil)))
    (pss_cons (ps_expr (pcall D_check_row G_check_row hr (pa_cons (pv 0) (pa_cons (pv 1) pa_nil))))
    (pss_cons (ps_expr (pcall D_check_remainder G_check_remainder hr (pa_cons (pv 0) (pa_cons (pv 2) pa_nil))))
    (pss_one (ps_ret (pcall D_worth_of G_worth_of hr (pa_cons (pv 0) (pa_cons (pv 1) (pa_cons (pv 2) pa_nil))))))))), ?_⟩
  exact ⟨_, rfl, p, rfl, hp, _, rfl, _, rfl, p, a, ns, rfl, hS, hR, _, rfl, _, rfl, p, z, rfl, z0, z1, _, rfl, _, rfl, _, rfl, p, a, ns, z, rfl, hp, hS, hR.all, z0, z1, q⟩
abbrev s_through : Stmt := top 43
theorem sc_through : FnScope ["prime", "points"] ["prime", "points"] (defScope s_through) := ⟨rfl, rfl, rfl, by decide +kernel, rfl, by decide +kernel, by decide +kernel⟩
theorem ok_through {n : Nat} {f f1 f2 f3 : Addr} {fd d1 d2 d3 : FuncData} (F : Fun K "through" "through" s_through f fd) (T : Txt K mg) (D_check_prime : Df K mg "check_prime" f1 d1 ["prime"]) (G_check_prime : FnOk P w K mg base CX0 n f1 d1 ["prime"] spCkPrime)
    (D_check_points : Df K mg "check_points" f2 d2 ["prime", "points"]) (G_check_points : FnOk P w K mg base CX0 n f2 d2 ["prime", "points"] (spCkPoints K))
    (D_rows_of : Df K mg "rows_of" f3 d3 ["prime", "points"]) (G_rows_of : FnOk P w K mg base CX0 n f3 d3 ["prime", "points"] (spRowsOf K)) :
    FnOk P w K mg base CX0 (n + 1) f fd ["prime", "points"] (spThrough K) := by
  refine F.ok sc_through (fun vs H Q E h => ?_) (fun cdv A outer s H vs Q E hr h => ?_)
  · obtain ⟨p, a, ts, pts, rfl, _⟩ := h
    rfl
  obtain ⟨p, a, ts, pts, rfl, hp, hS, hP, hG, hl, q⟩ := h
  refine ⟨_, (pss_cons (ps_expr (pcall D_check_prime G_check_prime hr (pa_cons (pv 0) pa_nil)))
    (pss_cons (ps_expr (pcall D_check_points G_check_points hr (pa_cons (pv 0) (pa_cons (pv 1) pa_nil))))
    (pss_one (ps_ret (pe_ix ix_list (pcall D_rows_of G_rows_of hr (pa_cons (pv 0) (pa_cons (pv 1) pa_nil))) (pe_un un_neg pe_int) (fun _ _ => rfl)))))), ?_⟩
  refine ⟨_, rfl, p, rfl, hp, _, rfl, _, rfl, p, a, ts, pts, rfl, hS, hP, hG, (by omega), fun H1 hs1 => ?_⟩
  refine ⟨_, rfl, _, rfl, p, a, ts, pts, rfl, hp, hs1.seq hS, hP.same hs1, hG, (by omega), fun R as rows H2 hs2 hR hRw hrl hT => ?_⟩
  have hal := hRw.len
  obtain ⟨la, hla, hlr⟩ := hRw.get pts.length (by omega)
  have hTi := hT pts.length (Nat.le_refl _)
  rw [List.take_length] at hTi
  exact ⟨_, rfl, R, _, _, _, rfl, rfl, SqL.of hR, at_lastR (by rw [hal, hrl]; exact hla), q la _ H2 (hs1.trans hs2) hlr hTi.1 hTi.2.1 hTi.2.2⟩
def spSecret (K : PySem.W.Frag) : Sp := fun vs H Q _ => ∃ (p : Int) (a : Addr) (ts : List Addr) (pts : List (Int × Int)), vs = [.int p, .ref a] ∧ Pr p ∧ SqL K H a (ts.map V.ref) ∧ Pts H ts pts ∧ GoodPts p 1 pts ∧ pts.length ≤ 100 ∧
  ∀ (v : Int) (row : List Int) H', Same H H' → Row p row → row.length ≤ pts.length → (∀ xy ∈ pts, ev xy.1 row % p = xy.2) → v = ev 0 row % p → Q (.int v) H'
def sharesL (p : Int) (ns : List Int) (c : Nat) : List (Int × Int) := (List.range c).map fun (k : Nat) => (1 + (k : Int), ev (1 + (k : Int)) ns % p)
abbrev s_secret_by : Stmt := top 47
theorem sc_secret_by : FnScope ["prime", "shares"] ["prime", "shares"] (defScope s_secret_by) := ⟨rfl, rfl, rfl, by decide +kernel, rfl, by decide +kernel, by decide +kernel⟩
theorem ok_secret_by {n : Nat} {f f1 f2 f3 f4 : Addr} {fd d1 d2 d3 d4 : FuncData} (F : Fun K "secret_by" "secret_by" s_secret_by f fd) (T : Txt K mg) (D_check_prime : Df K mg "check_prime" f1 d1 ["prime"]) (G_check_prime : FnOk P w K mg base CX0 n f1 d1 ["prime"] spCkPrime)
    (D_check_shares : Df K mg "check_shares" f2 d2 ["prime", "shares"]) (G_check_shares : FnOk P w K mg base CX0 n f2 d2 ["prime", "shares"] (spCkShares K))
    (D_rows_of : Df K mg "rows_of" f3 d3 ["prime", "points"]) (G_rows_of : FnOk P w K mg base CX0 n f3 d3 ["prime", "points"] (spRowsOf K))
    (D_worth_of : Df K mg "worth_of" f4 d4 ["prime", "numbers", "spot"]) (G_worth_of : FnOk P w K mg base CX0 n f4 d4 ["prime", "numbers", "spot"] (spValue K)) :
    FnOk P w K mg base CX0 (n + 1) f fd ["prime", "shares"] (spSecret K) := by
  refine F.ok sc_secret_by (fun vs H Q E h => ?_) (fun cdv A outer s H vs Q E hr h => ?_)
  · obtain ⟨p, a, ts, pts, rfl, _⟩ := h
    rfl
  obtain ⟨p, a, ts, pts, rfl, hp, hS, hP, hG, hl, q⟩ := h
  have hp0 := hp.lo
  refine ⟨_, (pss_cons (ps_expr (pcall D_check_prime G_check_prime hr (pa_cons (pv 0) pa_nil)))
    (pss_cons (ps_expr (pcall D_check_shares G_check_shares hr (pa_cons (pv 0) (pa_cons (pv 1) pa_nil))))
    (pss_one (ps_ret (pcall D_worth_of G_worth_of hr (pa_cons (pv 0) (pa_cons (pe_ix ix_list (pcall D_rows_of G_rows_of hr (pa_cons (pv 0) (pa_cons (pv 1) pa_nil))) (pe_un un_neg pe_int) (fun _ _ => rfl)) (pa_cons pe_int pa_nil)))))))), ?_⟩
  refine ⟨_, rfl, p, rfl, hp, _, rfl, _, rfl, p, a, ts, pts, rfl, hS, hP, hG, (by omega), fun H1 hs1 => ?_⟩
  refine ⟨_, rfl, _, rfl, _, rfl, p, a, ts, pts, rfl, hp, hs1.seq hS, hP.same hs1, hG.low, (by omega), fun R as rows H2 hs2 hR hRw hrl hT => ?_⟩
  have hal := hRw.len
  obtain ⟨la, hla, hlr⟩ := hRw.get pts.length (by omega)
  have hTi := hT pts.length (Nat.le_refl _)
  rw [List.take_length] at hTi
  exact ⟨_, rfl, R, _, _, _, rfl, rfl, SqL.of hR, at_lastR (by rw [hal, hrl]; exact hla), p, la, _, 0, rfl, hp, SqL.of hlr, hTi.1.all, (by omega), (by omega), q _ _ H2 (hs1.trans hs2) hTi.1 hTi.2.1 hTi.2.2 rfl⟩
abbrev s_row_for : Stmt := top 48
theorem sc_row_for : FnScope ["prime", "shares", "needed", "secret"] ["prime", "shares", "needed", "secret"] (defScope s_row_for) := ⟨rfl, rfl, rfl, by decide +kernel, rfl, by decide +kernel, by decide +kernel⟩
def spRowForE (K : PySem.W.Frag) (CE : Addr) : Sp := fun vs H Q E => ∃ (p sc nd : Int) (a : Addr) (ts : List Addr) (pts : List (Int × Int)), vs = [.int p, .ref a, .int nd, .int sc] ∧ Pr p ∧ 0 ≤ sc ∧ sc < p ∧ H a = some (.lst (ts.map V.ref)) ∧ Pts H ts pts ∧ GoodPts p 1 pts ∧ pts.length ≤ 100 ∧ (nd ≤ (pts.length : Int) → ∀ H', Same H H' → E (.ref CE) none H') ∧
  ((pts.length : Int) < nd → ∀ r (row : List Int) H', Same H H' → H' r = some (.lst (row.map V.int)) → Row p row → row.length ≤ pts.length + 1 → (∀ xy ∈ pts, ev xy.1 row % p = xy.2) → ev 0 row % p = sc → Q (.ref r) H')
theorem GoodPts.snoc {p s : Int} {pts : List (Int × Int)} (h : GoodPts p 1 pts) (hp : 0 < p) (h0 : 0 ≤ s) (h1 : s < p) : GoodPts p 0 (pts ++ [(0, s)]) := by
  refine ⟨fun xy hxy => ?_, ?_⟩
  · rcases List.mem_append.mp hxy with hxy | hxy
    · exact h.low.1 xy hxy
    · have e : xy = (0, s) := by simpa using hxy
      rw [e]
      exact ⟨Int.le_refl 0, hp, h0, h1⟩
  · rw [List.map_append]
    refine List.nodup_append.mpr ⟨h.2, by simp, fun x hx y hy => ?_⟩
    obtain ⟨xy, hm, rfl⟩ := List.mem_map.mp hx
    have := (h.1 xy hm).1
    have e : y = 0 := by simpa using hy
    omega
theorem ok_row_for {n : Nat} {f f1 f2 f3 f4 C_Enough : Addr} {fd d1 d2 d3 d4 : FuncData} (F : Fun K "row_for" "row_for" s_row_for f fd) (T : Txt K mg) (T_Enough : mg "Enough" = some (.ref C_Enough)) (X_Enough : PySem.W.excIn K C_Enough bmV "ValueError.__new__" = true) (D_check_prime : Df K mg "check_prime" f1 d1 ["prime"]) (G_check_prime : FnOk P w K mg base CX0 n f1 d1 ["prime"] spCkPrime)
    (D_check_shares : Df K mg "check_shares" f2 d2 ["prime", "shares"]) (G_check_shares : FnOk P w K mg base CX0 n f2 d2 ["prime", "shares"] (spCkShares K))
    (D_check_remainder : Df K mg "check_remainder" f3 d3 ["prime", "number"]) (G_check_remainder : FnOk P w K mg base CX0 n f3 d3 ["prime", "number"] spCkRem)
    (D_rows_of : Df K mg "rows_of" f4 d4 ["prime", "points"]) (G_rows_of : FnOk P w K mg base CX0 n f4 d4 ["prime", "points"] (spRowsOf K)) :
    FnOk P w K mg base (CXE P w) (n + 1) f fd ["prime", "shares", "needed", "secret"] (spRowForE K C_Enough) := by
  refine F.okE sc_row_for (fun vs H Q E h => ?_) (fun cdv A outer s H vs Q E hr h => ?_)
  · obtain ⟨p, sc, nd, a, ts, pts, rfl, _⟩ := h
    rfl
  obtain ⟨p, sc, nd, a, ts, pts, rfl, hp, s0, s1, hA, hP, hG, hl, qE, qQ⟩ := h
  have hp0 := hp.lo
  have htl := hP.len
  refine ⟨_, (pss_cons (ps_expr (pcall D_check_prime G_check_prime hr (pa_cons (pv 0) pa_nil)))
    (pss_cons (ps_expr (pcall D_check_shares G_check_shares hr (pa_cons (pv 0) (pa_cons (pv 1) pa_nil))))
    (pss_cons (ps_expr (pcall D_check_remainder G_check_remainder hr (pa_cons (pv 0) (pa_cons (pv 3) pa_nil))))
    (pss_cons (ps_if (pt_cmpR op_ge (pe_callB call_len_seq rfl T.len bt_len (pa_cons (pv 1) pa_nil)) (pv 2) (nomark _)) (pss_one (ps_raise T_Enough X_Enough)) pss_nil)
    (pss_one (ps_ret (pe_ix ix_list (pcall D_rows_of G_rows_of hr (pa_cons (pv 0) (pa_cons (pe_op op_cat (pv 1) (pe_lst (pa_cons (pe_tup (pa_cons pe_int (pa_cons (pv 3) pa_nil))) pa_nil))) pa_nil))) (pe_un un_neg pe_int) (fun _ _ => rfl)))))))), ?_⟩
  refine ⟨_, rfl, p, rfl, hp, _, rfl, _, rfl, p, a, ts, pts, rfl, SqL.of hA, hP, hG, (by omega), fun H1 hs1 => ?_⟩
  have hA1 := hs1 _ _ hA
  refine ⟨_, rfl, _, rfl, p, sc, rfl, s0, s1, ?_⟩
  refine ⟨_, rfl, a, _, rfl, .inl (SqL.of hA1), _, rfl, _, _, rfl, rfl, _, rfl, ?_⟩
  rw [List.length_map, htl]
  refine ite2 (fun d => ?_) (fun d => ?_)
  · have d' : nd ≤ (pts.length : Int) := of_decide_eq_true d
    exact qE d' _ hs1
  have d' : ¬ nd ≤ (pts.length : Int) := of_decide_eq_false (Bool.eq_false_iff.mpr d)
  refine ⟨_, rfl, _, rfl, _, rfl, (by show 2 ≤ sizeLine; decide), fun t0 ht0 => ⟨(by show 1 ≤ sizeLine; decide), fun l hl' => ?_⟩⟩
  have s2 := same_new ht0 (.tup [V.int 0, V.int sc])
  have s3 := same_new hl' (.lst [V.ref t0])
  refine ⟨a, l, _, _, rfl, rfl, s3 _ _ (s2 _ _ hA1), upd_same, (by rw [List.length_map]; exact Nat.le_of_lt (small1000 (by simp; omega))), fun b hb => ?_⟩
  have s4 := same_new hb (.lst (ts.map V.ref ++ [V.ref t0]))
  have t4 := (s2.trans s3).trans s4
  have hB : upd (upd (upd H1 t0 (.tup [V.int 0, V.int sc])) l (.lst [V.ref t0])) b (.lst (ts.map V.ref ++ [V.ref t0])) b = some (.lst ((ts ++ [t0]).map V.ref)) := by
    rw [upd_same, List.map_append]
    rfl
  refine ⟨p, b, ts ++ [t0], pts ++ [(0, sc)], rfl, hp, SqL.of hB, Pts.snoc (s4 _ _ (s3 _ _ upd_same)) (hP.same (hs1.trans t4)), hG.snoc (by omega) s0 s1, (by simp; omega), fun R as rows H2 hs2 hR hRw hrl hT => ?_⟩
  have hal := hRw.len
  have hpl : (pts ++ [(0, sc)]).length = pts.length + 1 := by simp
  obtain ⟨la, hla, hlr⟩ := hRw.get (pts.length + 1) (by omega)
  have hTi := hT (pts.length + 1) (by omega)
  rw [List.take_of_length_le (by omega)] at hTi
  exact ⟨_, rfl, R, _, _, _, rfl, rfl, SqL.of hR, at_lastR (by rw [hal, hrl, hpl]; exact hla), qQ (by omega) la _ H2 (hs1.trans (t4.trans hs2)) hlr hTi.1 (by have := hTi.2.1; omega) (fun xy hxy => hTi.2.2 xy (List.mem_append_left _ hxy)) (hTi.2.2 (0, sc) (List.mem_append_right _ (by simp)))⟩
abbrev s_first_off : Stmt := top 49
theorem sc_first_off : FnScope ["prime", "shares", "needed", "rows", "place"] ["prime", "shares", "needed"] (defScope s_first_off) := ⟨rfl, rfl, rfl, by decide +kernel, rfl, by decide +kernel, by decide +kernel⟩
def spFirstOff (K : PySem.W.Frag) : Sp := fun vs H Q _ => ∃ (p nd : Int) (a : Addr) (ts : List Addr) (pts : List (Int × Int)), vs = [.int p, .ref a, .int nd] ∧ Pr p ∧ SqL K H a (ts.map V.ref) ∧ Pts H ts pts ∧ GoodPts p 1 pts ∧ pts.length ≤ 100 ∧
  ∀ (rows : List (List Int)) H', Same H H' → rows.length = pts.length + 1 → (∀ j, j ≤ pts.length → Thru p (pts.take j) (rows.getD j [])) →
    (∀ k : Nat, k < pts.length → nd < ((rows.getD (k + 1) []).length : Int) → (∀ j, j < k → ¬ nd < ((rows.getD (j + 1) []).length : Int)) → Q (.int k) H') ∧ ((∀ j, j < pts.length → ¬ nd < ((rows.getD (j + 1) []).length : Int)) → Q .non H')
theorem ok_first_off {n : Nat} {f f1 f2 f3 : Addr} {fd d1 d2 d3 : FuncData} (F : Fun K "first_off" "first_off" s_first_off f fd) (T : Txt K mg) (D_check_prime : Df K mg "check_prime" f1 d1 ["prime"]) (G_check_prime : FnOk P w K mg base CX0 n f1 d1 ["prime"] spCkPrime)
    (D_check_shares : Df K mg "check_shares" f2 d2 ["prime", "shares"]) (G_check_shares : FnOk P w K mg base CX0 n f2 d2 ["prime", "shares"] (spCkShares K))
    (D_rows_of : Df K mg "rows_of" f3 d3 ["prime", "points"]) (G_rows_of : FnOk P w K mg base CX0 n f3 d3 ["prime", "points"] (spRowsOf K)) :
    FnOk P w K mg base CX0 (n + 1) f fd ["prime", "shares", "needed"] (spFirstOff K) := by
  refine F.ok sc_first_off (fun vs H Q E h => ?_) (fun cdv A outer s H vs Q E hr h => ?_)
  · obtain ⟨p, nd, a, ts, pts, rfl, _⟩ := h
    rfl
  obtain ⟨p, nd, a, ts, pts, rfl, hp, hS, hP, hG, hl, q⟩ := h
  have hp0 := hp.lo
  have htl := hP.len
  have hml : (ts.map V.ref).length = ts.length := List.length_map _
  refine ⟨_, (pss_cons (ps_expr (pcall D_check_prime G_check_prime hr (pa_cons (pv 0) pa_nil)))
    (pss_cons (ps_expr (pcall D_check_shares G_check_shares hr (pa_cons (pv 0) (pa_cons (pv 1) pa_nil))))
    (pss_cons (ps_set (i := 3) sc_first_off.nd rfl (Or.inl rfl) (pcall D_rows_of G_rows_of hr (pa_cons (pv 0) (pa_cons (pv 1) pa_nil))))
    (pss_cons (ps_for PassesOwn.never rfl (pi_range1 rfl T.range (pa_cons (pe_callB call_len_seq rfl T.len bt_len (pa_cons (pv 1) pa_nil)) pa_nil)) (pg_name (i := 4) sc_first_off.nd rfl (Or.inl rfl)) (pss_one (ps_if (pt_cmpR op_gt (pe_callB call_len_seq rfl T.len bt_len (pa_cons (pe_ix ix_list (pv 3) (pe_op op_add (pv 4) pe_int) (fun _ _ => rfl)) pa_nil)) (pv 2) (nomark _)) (pss_one (ps_ret (pv 4))) pss_nil)))
    (pss_one (ps_ret pe_non)))))), ?_⟩
  refine ⟨_, rfl, p, rfl, hp, _, rfl, _, rfl, p, a, ts, pts, rfl, hS, hP, hG, (by omega), fun H1 hs1 => ?_⟩
  refine ⟨_, rfl, _, rfl, p, a, ts, pts, rfl, hp, hs1.seq hS, hP.same hs1, hG.low, (by omega), fun R as rows H2 hs2 hR hRw hrl hT => ?_⟩
  have hal := hRw.len
  obtain ⟨q1, q2⟩ := q rows H2 (hs1.trans hs2) hrl hT
  refine ⟨_, rfl, a, _, rfl, .inl ((hs1.trans hs2).seq hS), _, rfl, (by omega), (by omega), ?_⟩
  have en : ((((ts.map V.ref).length : Nat) : Int)).toNat = pts.length := by omega
  rw [en]
  refine for_range (fun i σ H' => H2 = H' ∧ (∀ j, j < i → ¬ nd < ((rows.getD (j + 1) []).length : Int)) ∧ ∃ x4, σ = [some (.int p), some (.ref a), some (.int nd), some (.ref R), x4]) ⟨rfl, (fun j hj => absurd hj (Nat.not_lt_zero j)), _, rfl⟩ ?_ ?_
  · rintro i σ H' hi ⟨e, hj, x4, rfl⟩
    subst e
    obtain ⟨la, hla, hlr⟩ := hRw.get (i + 1) (by omega)
    have e1 : (0 + (i : Int)) + 1 = ((i + 1 : Nat) : Int) := by omega
    refine ⟨_, rfl, _, rfl, _, _, rfl, rfl, R, _, _, _, rfl, rfl, SqL.of hR, (by rw [e1]; exact at_ref hla), la, _, rfl, .inl (SqL.of hlr), _, rfl, _, _, rfl, rfl, _, rfl, ?_⟩
    rw [List.length_map]
    refine ite2 (fun d => ?_) (fun d => ?_)
    · have d' := of_decide_eq_true d
      refine ⟨_, rfl, ?_⟩
      rw [show (0 + (i : Int)) = (i : Int) by omega]
      exact q1 i hi d' hj
    · have d' := of_decide_eq_false (Bool.eq_false_iff.mpr d)
      refine ⟨rfl, fun j hj' => ?_, _, rfl⟩
      by_cases h : j < i
      · exact hj j h
      · have : j = i := by omega
        rw [this]
        exact d'
  · rintro σ H' ⟨e, hj, x4, rfl⟩
    subst e
    exact q2 hj
abbrev s_shares_of : Stmt := top 46
theorem sc_shares_of : FnScope ["prime", "secret", "others", "count", "numbers", "number"] ["prime", "secret", "others", "count"] (defScope s_shares_of) := ⟨rfl, rfl, rfl, by decide +kernel, rfl, by decide +kernel, by decide +kernel⟩
def spSharesE (CT : Addr) : Sp := fun vs H Q E => ∃ (p sc : Int) (a : Addr) (os : List Int) (c : Nat), vs = [.int p, .int sc, .ref a, .int (c : Int)] ∧ Pr p ∧ 0 ≤ sc ∧ sc < p ∧ H a = some (.lst (os.map V.int)) ∧ (∀ x ∈ os, 0 ≤ x ∧ x < p) ∧ os.length ≤ 100 ∧ (p ≤ (c : Int) → ∀ H', Same H H' → E (.ref CT) none H') ∧
  ((c : Int) < p → c ≤ 500 ∧ ∀ r (ts : List Addr) H', Same H H' → H' r = some (.lst (ts.map V.ref)) → Pts H' ts (sharesL p (sc :: os) c) → Q (.ref r) H')
theorem ok_shares_of {n : Nat} {f f1 f2 f3 C_TooMany : Addr} {fd d1 d2 d3 : FuncData} (F : Fun K "shares_of" "shares_of" s_shares_of f fd) (T : Txt K mg) (T_TooMany : mg "TooMany" = some (.ref C_TooMany)) (X_TooMany : PySem.W.excIn K C_TooMany bmV "ValueError.__new__" = true) (D_check_prime : Df K mg "check_prime" f1 d1 ["prime"]) (G_check_prime : FnOk P w K mg base CX0 n f1 d1 ["prime"] spCkPrime)
    (D_check_remainder : Df K mg "check_remainder" f2 d2 ["prime", "number"]) (G_check_remainder : FnOk P w K mg base CX0 n f2 d2 ["prime", "number"] spCkRem)
    (D_worth_of : Df K mg "worth_of" f3 d3 ["prime", "numbers", "spot"]) (G_worth_of : FnOk P w K mg base CX0 n f3 d3 ["prime", "numbers", "spot"] (spValue K)) :
    FnOk P w K mg base (CXE P w) (n + 1) f fd ["prime", "secret", "others", "count"] (spSharesE C_TooMany) := by
  refine F.okE sc_shares_of (fun vs H Q E h => ?_) (fun cdv A outer s H vs Q E hr h => ?_)
  · obtain ⟨p, sc, a, os, c, rfl, _⟩ := h
    rfl
  obtain ⟨p, sc, a, os, c, rfl, hp, s0, s1', hA, hob, hol, qE, qQ⟩ := h
  have hp0 := hp.lo
  have hpm := hp.hi
  refine ⟨_, (pss_cons (ps_expr (pcall D_check_prime G_check_prime hr (pa_cons (pv 0) pa_nil)))
    (pss_cons (ps_set (i := 4) sc_shares_of.nd rfl (Or.inr rfl) (pe_op op_cat (pe_lst (pa_cons (pv 1) pa_nil)) (pv 2)))
    (pss_cons (PS.nox (ps_for PassesOwn.never rfl (pi_list (pv 4)) (pg_name (i := 5) sc_shares_of.nd rfl (Or.inl rfl)) (pss_one (ps_expr (pcall D_check_remainder G_check_remainder hr (pa_cons (pv 0) (pa_cons (pv 5) pa_nil)))))))
    (pss_cons (ps_if (pt_cmpR op_ge (pv 3) (pv 0) (nomark _)) (pss_one (ps_raise T_TooMany X_TooMany)) pss_nil)
    (pss_one (ps_ret (pe_comp (N' := ["spot", "prime", "numbers"]) (js := [none, some 0, some 4]) (compOk_of rfl) rfl (pi_range2 rfl T.range (pa_cons pe_int (pa_cons (pe_op op_add (pv 3) pe_int) pa_nil))) (fun _ _ _ _ => (pg_name (i := 0) (show (["spot", "prime", "numbers"] : List Str).Nodup by decide +kernel) rfl (Or.inl rfl) (Or.inr rfl))) (fun _ _ _ _ => pif_nil) (fun _ _ _ _ => (pe_tup (pa_cons (pv 0) (pa_cons (pcall D_worth_of G_worth_of hr (pa_cons (pv 1) (pa_cons (pv 2) (pa_cons (pv 0) pa_nil)))) pa_nil))))))))))), ?_⟩
  refine ⟨_, rfl, p, rfl, hp, ?_⟩
  refine ⟨_, rfl, (by show 1 ≤ sizeLine; decide), fun l hl => ?_⟩
  have s1 := same_new hl (.lst [V.int sc])
  refine ⟨_, rfl, l, a, _, _, rfl, rfl, upd_same, s1 _ _ hA, (by rw [List.length_map]; exact Nat.le_of_lt (small1000 (by simp; omega))), fun b hb => ?_⟩
  have s2 := s1.trans (same_new hb (.lst ([V.int sc] ++ os.map V.int)))
  have hB : upd (upd H l (.lst [V.int sc])) b (.lst ([V.int sc] ++ os.map V.int)) b = some (.lst ((sc :: os).map V.int)) := upd_same
  generalize upd (upd H l (.lst [V.int sc])) b (.lst ([V.int sc] ++ os.map V.int)) = H1 at s2 hB ⊢
  have hall : ∀ x ∈ sc :: os, 0 ≤ x ∧ x < p := fun x hx => by
    rcases List.mem_cons.mp hx with rfl | hx
    · exact ⟨s0, s1'⟩
    · exact hob x hx
  refine ⟨_, rfl, b, rfl, ⟨_, SqL.of hB⟩, for_list (xs := (sc :: os).map V.int) (fun i σ H' => H1 = H' ∧ ∃ x, σ = [some (.int p), some (.int sc), some (.ref a), some (.int c), some (.ref b), x]) ⟨rfl, _, rfl⟩ (fun i σ H' _ h => SqL.of (h.1 ▸ hB)) ?_ ?_⟩
  · rintro i x σ H' hx ⟨e, x0, rfl⟩
    subst e
    obtain ⟨v, rfl, hv⟩ := int_at hx
    have hm := hall v (List.mem_of_getElem? hv)
    exact ⟨_, rfl, _, rfl, p, v, rfl, hm.1, hm.2, rfl, _, rfl⟩
  rintro σ H' ⟨e, x, rfl⟩
  subst e
  refine ⟨_, rfl, _, rfl, _, _, rfl, rfl, _, rfl, ?_⟩
  refine ite2 (fun d => ?_) (fun d => ?_)
  · have d' : p ≤ (c : Int) := of_decide_eq_true d
    exact qE d' _ s2
  have d' : ¬ p ≤ (c : Int) := of_decide_eq_false (Bool.eq_false_iff.mpr d)
  obtain ⟨hc, q⟩ := qQ (by omega)
  have ec : ((c : Int) + 1 - 1).toNat = c := by omega
  refine ⟨_, rfl, _, _, rfl, rfl, _, _, rfl, ⟨by omega, by omega, by omega, by omega⟩, fun D hD => ?_⟩
  rw [ec]
  refine comp_allH (xs := rangeV 1 c) hD (by rw [rangeV_length]; exact Nat.le_of_lt (small1000 (by omega))) (fun H x y => PtV H (fun z => ev z (sc :: os) % p) x y) ?_ ?_ itr_go ?_ ?_
  · rintro H0 H1 x y hs ⟨z, t, e1, e2, e3⟩
    exact ⟨z, t, e1, e2, hs _ _ e3⟩
  · rintro H0 b ys zs x y hb ⟨z, t, e1, e2, e3⟩
    refine ⟨z, t, e1, e2, ?_⟩
    rw [upd_ne (fun e => by rw [e, hb] at e3; cases e3)]
    exact e3
  · intro x H2 R hx hs z
    obtain ⟨k, hk, rfl⟩ := rangeV_mem hx
    refine ⟨_, rfl, _, rfl, _, rfl, _, rfl, p, b, sc :: os, _, rfl, hp, SqL.of (hs _ _ hB), hall, (by omega), (by omega), (by show 2 ≤ sizeLine; decide), fun pt hpt => ?_⟩
    exact z _ _ (same_new hpt _) ⟨_, pt, rfl, rfl, upd_same⟩
  · intro ys H2 hF hs hDy
    have er : rangeV 1 c = ((List.range c).map fun (k : Nat) => 1 + (k : Int)).map V.int := by
      unfold rangeV
      rw [List.map_map]
      rfl
    rw [er] at hF
    obtain ⟨ts, rfl, hPts⟩ := pts_of hF
    rw [List.map_map] at hPts
    exact q D ts H2 (s2.trans hs) hDy hPts
def spCkPointsE (K : PySem.W.Frag) (c : Cls8) : Sp := fun vs H Q E => ∃ (p : Int) (a : Addr) (ts : List Addr) (pts : List (Int × Int)), vs = [.int p, .ref a] ∧ SqL K H a (ts.map V.ref) ∧ Pts H ts pts ∧ pts.length ≤ 200 ∧ Says c (wPts p 0 pts) H Q E
theorem okE_check_points {n : Nat} {f f1 : Addr} {fd d1 : FuncData} {c : Cls8} (F : Fun K "check_points" "check_points" s_check_points f fd) (T : Txt K mg) (T_SameSpot : mg "SameSpot" = some (.ref c.S)) (X_SameSpot : PySem.W.excIn K c.S bmV "ValueError.__new__" = true)
    (D_check_remainder : Df K mg "check_remainder" f1 d1 ["prime", "number"]) (GE_check_remainder : FnOk P w K mg base (CXE P w) n f1 d1 ["prime", "number"] (spCkRemE c)) :
    FnOk P w K mg base (CXE P w) (n + 1) f fd ["prime", "points"] (spCkPointsE K c) := by
  refine F.okE sc_check_points (fun vs H Q E h => ?_) (fun cdv A outer s H vs Q E hr h => ?_)
  · obtain ⟨p, a, ts, pts, rfl, _⟩ := h
    rfl
  obtain ⟨p, a, ts, pts, rfl, hS, hP, hl, q⟩ := h
  have htl := hP.len
  have hml : (ts.map V.ref).length = ts.length := List.length_map _
  have hfl : (pts.map Prod.fst).length = pts.length := List.length_map _
  have out : (¬ ∀ xy ∈ pts, 0 ≤ xy.1 ∧ xy.1 < p ∧ 0 ≤ xy.2 ∧ xy.2 < p) → E (.ref c.B) none H := fun hn => by
    have e : ifW (∀ xy ∈ pts, 0 ≤ xy.1 ∧ xy.1 < p ∧ 0 ≤ xy.2 ∧ xy.2 < p) .spot = .spot := ifW_ne hn
    have z := q.out (by rw [e]; decide) (Same.refl H)
    rwa [e] at z
  refine ⟨_, (pss_cons (ps_forL rfl (pi_list (pv 1)) (pg_name (i := 2) sc_check_points.nd rfl (Or.inl rfl)) (pss_cons (ps_expr (pcallL D_check_remainder GE_check_remainder hr (pa_cons (pv 0) (pa_cons (pe_ix ix_tup (pv 2) pe_int (fun _ _ => rfl)) pa_nil))))
    (pss_one (ps_expr (pcallL D_check_remainder GE_check_remainder hr (pa_cons (pv 0) (pa_cons (pe_ix ix_tup (pv 2) pe_int (fun _ _ => rfl)) pa_nil)))))))
    (pss_cons (ps_setComp (i := 3) sc_check_points.nd rfl (Or.inl rfl) (N' := ["point"]) (js := [none]) (compOk_of rfl) rfl (pi_list (pv 1)) (fun _ _ _ _ => (pg_name (i := 0) (show (["point"] : List Str).Nodup by decide +kernel) rfl (Or.inl rfl) (Or.inr rfl))) (fun _ _ _ _ => pif_nil) (fun _ _ _ _ => (pe_ix (r := rIxT K) ix_tup (pv 0) pe_int (fun _ _ => rfl))))
    (pss_one (ps_if (pt_cmpR op_lt (pe_callB call_lenSet rfl T.len bt_len (pa_cons (pe_callTy (call_set_of rfl) rfl T.set bt_set (pa_cons (pv 3) pa_nil)) pa_nil)) (pe_callB call_len_seq rfl T.len bt_len (pa_cons (pv 3) pa_nil)) (nomark _)) (pss_one (ps_raise T_SameSpot X_SameSpot)) pss_nil)))), ?_⟩
  refine ⟨_, rfl, a, rfl, ⟨_, hS⟩, for_list (xs := ts.map V.ref) (fun i σ H' => H = H' ∧ (∀ j xy, j < i → pts[j]? = some xy → 0 ≤ xy.1 ∧ xy.1 < p ∧ 0 ≤ xy.2 ∧ xy.2 < p) ∧ ∃ x, σ = [some (.int p), some (.ref a), x, none]) ⟨rfl, (fun j v hj => absurd hj (Nat.not_lt_zero j)), _, rfl⟩ (fun i σ H' _ h => h.1 ▸ hS) ?_ ?_⟩
  · rintro i x σ H' hx ⟨e, hb, x0, rfl⟩
    subst e
    obtain ⟨t, xy, rfl, hxy, ht⟩ := hP.get hx
    have hm := List.mem_of_getElem? hxy
    refine ⟨_, rfl, _, rfl, t, _, _, _, rfl, rfl, SqT.of ht, rfl, p, xy.1, rfl, fun e1 => ?_, fun e1 => ?_⟩
    · have h1 : 0 ≤ xy.1 ∧ xy.1 < p := ifW_of (by decide) e1
      refine ⟨_, rfl, _, rfl, t, _, _, _, rfl, rfl, SqT.of ht, rfl, p, xy.2, rfl, fun e2 => ?_, fun e2 => ?_⟩
      · have h2 : 0 ≤ xy.2 ∧ xy.2 < p := ifW_of (by decide) e2
        refine ⟨rfl, fun j u hj hu => ?_, _, rfl⟩
        rcases Nat.lt_succ_iff_lt_or_eq.mp hj with hj | rfl
        · exact hb j u hj hu
        · rw [hxy] at hu
          cases hu
          exact ⟨h1.1, h1.2, h2.1, h2.2⟩
      · have hn : ¬ (0 ≤ xy.2 ∧ xy.2 < p) := fun z => e2 (ifW_done z)
        have e : wRem p xy.2 = .spot := ifW_ne hn
        rw [e]
        exact out fun z => hn ⟨(z xy hm).2.2.1, (z xy hm).2.2.2⟩
    · have hn : ¬ (0 ≤ xy.1 ∧ xy.1 < p) := fun z => e1 (ifW_done z)
      have e : wRem p xy.1 = .spot := ifW_ne hn
      rw [e]
      exact out fun z => hn ⟨(z xy hm).1, (z xy hm).2.1⟩
  rintro σ H' ⟨e, hb, x, rfl⟩
  subst e
  have hall : ∀ xy ∈ pts, 0 ≤ xy.1 ∧ xy.1 < p ∧ 0 ≤ xy.2 ∧ xy.2 < p := fun xy hx => by
    obtain ⟨j, hj⟩ := List.mem_iff_getElem?.mp hx
    exact hb j xy (by rw [hml, htl]; exact (List.getElem?_eq_some_iff.mp hj).1) hj
  have q2 := q.next (ifW_done hall) (Same.refl H)
  refine ⟨_, rfl, a, rfl, ⟨_, hS⟩, fun D hD => ?_⟩
  refine comp_all (xs := ts.map V.ref) hD (by rw [hml]; exact Nat.le_of_lt (small1000 (by omega))) (fun x y => ∃ (t : Addr) (xy : Int × Int), x = .ref t ∧ H t = some (.tup [.int xy.1, .int xy.2]) ∧ y = .int xy.1) (itl_go hS) ?_ ?_
  · intro x H1 R hx hs z
    obtain ⟨i, hi⟩ := List.mem_iff_getElem?.mp hx
    obtain ⟨t, xy, rfl, _, ht⟩ := hP.get hi
    exact ⟨_, rfl, t, _, _, _, rfl, rfl, SqT.of (hs _ _ ht), rfl, z _ _ (Same.refl _) ⟨t, xy, rfl, ht, rfl⟩⟩
  · intro ys H1 hF hs hDy
    have hys := spots_read hP hF
    subst hys
    have hle := mets_le (pts.map Prod.fst)
    refine ⟨_, rfl, D, pts.map Prod.fst, rfl, SqL.of hDy, (by rw [hfl]; omega), fun l hl' => ?_⟩
    refine ⟨l, _, _, rfl, upd_same, (by rw [hfl] at hle; exact Nat.le_of_lt (small1000 (by omega))), _, rfl, D, _, rfl, .inl (SqL.of ((same_new hl' _) _ _ hDy)), _, _, rfl, rfl, _, rfl, ?_⟩
    rw [List.length_map]
    by_cases hd : (pts.map Prod.fst).Nodup
    · have hmet := (mets_iff (pts.map Prod.fst)).mpr hd
      rw [decide_eq_false (by rw [hmet]; omega)]
      exact iteF ((q2 _ (hs.trans (same_new hl' _))).1 (ifW_done hd) _)
    · have hmet : ¬ (mets (pts.map Prod.fst)).length = (pts.map Prod.fst).length := fun z => hd ((mets_iff _).mp z)
      rw [decide_eq_true (by omega)]
      have e : ifW (pts.map Prod.fst).Nodup .same = .same := ifW_ne hd
      rw [e] at q2
      exact iteT ((q2 _ (hs.trans (same_new hl' _))).2 (by decide))
def spCkSharesE (K : PySem.W.Frag) (c : Cls8) : Sp := fun vs H Q E => ∃ (p : Int) (a : Addr) (ts : List Addr) (pts : List (Int × Int)), vs = [.int p, .ref a] ∧ SqL K H a (ts.map V.ref) ∧ Pts H ts pts ∧ pts.length ≤ 200 ∧ Says c (wPts p 1 pts) H Q E
theorem okE_check_shares {n : Nat} {f f1 : Addr} {fd d1 : FuncData} {c : Cls8} (F : Fun K "check_shares" "check_shares" s_check_shares f fd) (T : Txt K mg) (T_BadSpot : mg "BadSpot" = some (.ref c.B)) (X_BadSpot : PySem.W.excIn K c.B bmV "ValueError.__new__" = true)
    (D_check_points : Df K mg "check_points" f1 d1 ["prime", "points"]) (GE_check_points : FnOk P w K mg base (CXE P w) n f1 d1 ["prime", "points"] (spCkPointsE K c)) :
    FnOk P w K mg base (CXE P w) (n + 1) f fd ["prime", "shares"] (spCkSharesE K c) := by
  refine F.okE sc_check_shares (fun vs H Q E h => ?_) (fun cdv A outer s H vs Q E hr h => ?_)
  · obtain ⟨p, a, ts, pts, rfl, _⟩ := h
    rfl
  obtain ⟨p, a, ts, pts, rfl, hS, hP, hl, q⟩ := h
  have htl := hP.len
  have hml : (ts.map V.ref).length = ts.length := List.length_map _
  refine ⟨_, (pss_cons (ps_forL rfl (pi_list (pv 1)) (pg_name (i := 2) sc_check_shares.nd rfl (Or.inl rfl)) (pss_one (ps_if (pt_cmpR op_eqI (pe_ix ix_tup (pv 2) pe_int (fun _ _ => rfl)) pe_int (nomark _)) (pss_one (ps_raiseL T_BadSpot X_BadSpot)) pss_nil)))
    (pss_one (ps_expr (pcallE D_check_points GE_check_points hr (pa_cons (pv 0) (pa_cons (pv 1) pa_nil)))))), ?_⟩
  refine ⟨_, rfl, a, rfl, ⟨_, hS⟩, for_list (xs := ts.map V.ref) (fun i σ H' => H = H' ∧ (∀ j xy, j < i → pts[j]? = some xy → xy.1 ≠ 0) ∧ ∃ x, σ = [some (.int p), some (.ref a), x]) ⟨rfl, (fun j v hj => absurd hj (Nat.not_lt_zero j)), _, rfl⟩ (fun i σ H' _ h => h.1 ▸ hS) ?_ ?_⟩
  · rintro i x σ H' hx ⟨e, hb, x0, rfl⟩
    subst e
    obtain ⟨t, xy, rfl, hxy, ht⟩ := hP.get hx
    refine ⟨_, rfl, t, _, _, _, rfl, rfl, SqT.of ht, rfl, _, _, rfl, rfl, _, rfl, ?_⟩
    refine ite2 (fun d => ?_) (fun d => ?_)
    · have d' : xy.1 = 0 := of_decide_eq_true d
      have e : ifW (∀ xy ∈ pts, 1 ≤ xy.1 ∧ xy.1 < p ∧ 0 ≤ xy.2 ∧ xy.2 < p) .spot = .spot := ifW_ne fun z => by
        have := (z xy (List.mem_of_getElem? hxy)).1
        omega
      have z := q.out (by rw [e]; decide) (Same.refl H)
      rwa [e] at z
    · refine ⟨rfl, fun j u hj hu => ?_, _, rfl⟩
      rcases Nat.lt_succ_iff_lt_or_eq.mp hj with hj | rfl
      · exact hb j u hj hu
      · rw [hxy] at hu
        cases hu
        exact of_decide_eq_false (Bool.eq_false_iff.mpr d)
  rintro σ H' ⟨e, hb, x, rfl⟩
  subst e
  have hall : ∀ xy ∈ pts, xy.1 ≠ 0 := fun xy hx => by
    obtain ⟨j, hj⟩ := List.mem_iff_getElem?.mp hx
    exact hb j xy (by rw [hml, htl]; exact (List.getElem?_eq_some_iff.mp hj).1) hj
  have e : wPts p 1 pts = wPts p 0 pts := by
    unfold wPts
    have : (∀ xy ∈ pts, 1 ≤ xy.1 ∧ xy.1 < p ∧ 0 ≤ xy.2 ∧ xy.2 < p) = (∀ xy ∈ pts, 0 ≤ xy.1 ∧ xy.1 < p ∧ 0 ≤ xy.2 ∧ xy.2 < p) := propext ⟨fun z xy h => ⟨by have := (z xy h).1; omega, (z xy h).2⟩, fun z xy h => ⟨by have := (z xy h).1; have := hall xy h; omega, (z xy h).2⟩⟩
    rw [this]
  rw [e] at q
  exact ⟨_, rfl, _, rfl, p, a, ts, pts, rfl, hS, hP, hl, fun H' hs => ⟨fun z v => (q H' hs).1 z _, (q H' hs).2⟩⟩
def spTwoB (K : PySem.W.Frag) (c : Cls8) : Sp := fun vs H Q E => ∃ (p : Int) (a b : Addr) (ns ms : List Int), vs = [.int p, .ref a, .ref b] ∧ SqL K H a (ns.map V.int) ∧ SqL K H b (ms.map V.int) ∧ wRows p ns ms ≠ .done ∧ Says c (wRows p ns ms) H Q E
def spTwo (c : Cls8) : Sp := fun vs H Q E => ∃ (p : Int) (a b : Addr) (ns ms : List Int), vs = [.int p, .ref a, .ref b] ∧ H a = some (.lst (ns.map V.int)) ∧ H b = some (.lst (ms.map V.int)) ∧ ns.length ≤ 50 ∧ ms.length ≤ 50 ∧ Says c (wRows p ns ms) H Q E
theorem okE_added {n : Nat} {f f1 : Addr} {fd d1 : FuncData} {c : Cls8} (F : Fun K "added" "added" s_added f fd) (T : Txt K mg) (D_check_rows : Df K mg "check_rows" f1 d1 ["prime", "one", "two"]) (GE_check_rows : FnOk P w K mg base (CXE P w) n f1 d1 ["prime", "one", "two"] (spCkRowsE K c)) :
    FnOk P w K mg base (CXE P w) (n + 1) f fd ["prime", "one", "two"] (spTwoB K c) := by
  refine F.okE sc_added (fun vs H Q E h => ?_) (fun cdv A outer s H vs Q E hr h => ?_)
  · obtain ⟨p, a, b, ns, ms, rfl, _⟩ := h
    rfl
  obtain ⟨p, a, b, ns, ms, rfl, hSa, hSb, hw, q⟩ := h
  refine ⟨_, (pss_cons (ps_expr (pcallE D_check_rows GE_check_rows hr (pa_cons (pv 0) (pa_cons (pv 1) (pa_cons (pv 2) pa_nil)))))
    pss_never), ?_⟩
  exact ⟨_, rfl, _, rfl, _, rfl, p, a, b, ns, ms, rfl, hSa, hSb, q.only hw⟩
theorem okC_added {k : Nat} {f : Addr} {fd : FuncData} {c : Cls8} (G_added : FnOk P w K mg base CX0 k f fd ["prime", "one", "two"] (spAdded K)) (GE_added : FnOk P w K mg base (CXE P w) k f fd ["prime", "one", "two"] (spTwoB K c)) : FnOk P w K mg base (CXE P w) k f fd ["prime", "one", "two"] (spTwo c) :=
  FnOk.or G_added.calm GE_added fun vs H Q E h => by
    obtain ⟨p, a, b, ns, ms, rfl, ha, hb, la, lb, q⟩ := h
    by_cases hw : wRows p ns ms = .done
    · obtain ⟨hp, hr1, hr2⟩ := rows_done hw
      exact .inl ⟨p, a, b, ns, ms, rfl, hp, SqL.of ha, SqL.of hb, hr1, hr2, (by omega), (by omega), fun r H' hs _ => (q H' hs).1 hw _⟩
    · exact .inr ⟨p, a, b, ns, ms, rfl, SqL.of ha, SqL.of hb, hw, q⟩
theorem okE_lessened {n : Nat} {f f1 : Addr} {fd d1 : FuncData} {c : Cls8} (F : Fun K "lessened" "lessened" s_lessened f fd) (T : Txt K mg) (D_check_rows : Df K mg "check_rows" f1 d1 ["prime", "one", "two"]) (GE_check_rows : FnOk P w K mg base (CXE P w) n f1 d1 ["prime", "one", "two"] (spCkRowsE K c)) :
    FnOk P w K mg base (CXE P w) (n + 1) f fd ["prime", "one", "two"] (spTwoB K c) := by
  refine F.okE sc_lessened (fun vs H Q E h => ?_) (fun cdv A outer s H vs Q E hr h => ?_)
  · obtain ⟨p, a, b, ns, ms, rfl, _⟩ := h
    rfl
  obtain ⟨p, a, b, ns, ms, rfl, hSa, hSb, hw, q⟩ := h
  refine ⟨_, (pss_cons (ps_expr (pcallE D_check_rows GE_check_rows hr (pa_cons (pv 0) (pa_cons (pv 1) (pa_cons (pv 2) pa_nil)))))
    pss_never), ?_⟩
  exact ⟨_, rfl, _, rfl, _, rfl, p, a, b, ns, ms, rfl, hSa, hSb, q.only hw⟩
theorem okC_lessened {k : Nat} {f : Addr} {fd : FuncData} {c : Cls8} (G_lessened : FnOk P w K mg base CX0 k f fd ["prime", "one", "two"] (spLessened K)) (GE_lessened : FnOk P w K mg base (CXE P w) k f fd ["prime", "one", "two"] (spTwoB K c)) : FnOk P w K mg base (CXE P w) k f fd ["prime", "one", "two"] (spTwo c) :=
  FnOk.or G_lessened.calm GE_lessened fun vs H Q E h => by
    obtain ⟨p, a, b, ns, ms, rfl, ha, hb, la, lb, q⟩ := h
    by_cases hw : wRows p ns ms = .done
    · obtain ⟨hp, hr1, hr2⟩ := rows_done hw
      exact .inl ⟨p, a, b, ns, ms, rfl, hp, SqL.of ha, SqL.of hb, hr1, hr2, (by omega), (by omega), fun r H' hs _ => (q H' hs).1 hw _⟩
    · exact .inr ⟨p, a, b, ns, ms, rfl, SqL.of ha, SqL.of hb, hw, q⟩
theorem okE_multiplied {n : Nat} {f f1 : Addr} {fd d1 : FuncData} {c : Cls8} (F : Fun K "multiplied" "multiplied" s_multiplied f fd) (T : Txt K mg) (D_check_rows : Df K mg "check_rows" f1 d1 ["prime", "one", "two"]) (GE_check_rows : FnOk P w K mg base (CXE P w) n f1 d1 ["prime", "one", "two"] (spCkRowsE K c)) :
    FnOk P w K mg base (CXE P w) (n + 1) f fd ["prime", "one", "two"] (spTwoB K c) := by
  refine F.okE sc_multiplied (fun vs H Q E h => ?_) (fun cdv A outer s H vs Q E hr h => ?_)
  · obtain ⟨p, a, b, ns, ms, rfl, _⟩ := h
    rfl
  obtain ⟨p, a, b, ns, ms, rfl, hSa, hSb, hw, q⟩ := h
  refine ⟨_, (pss_cons (ps_expr (pcallE D_check_rows GE_check_rows hr (pa_cons (pv 0) (pa_cons (pv 1) (pa_cons (pv 2) pa_nil)))))
    pss_never), ?_⟩
  exact ⟨_, rfl, _, rfl, _, rfl, p, a, b, ns, ms, rfl, hSa, hSb, q.only hw⟩
theorem okC_multiplied {k : Nat} {f : Addr} {fd : FuncData} {c : Cls8} (G_multiplied : FnOk P w K mg base CX0 k f fd ["prime", "one", "two"] (spMul K)) (GE_multiplied : FnOk P w K mg base (CXE P w) k f fd ["prime", "one", "two"] (spTwoB K c)) : FnOk P w K mg base (CXE P w) k f fd ["prime", "one", "two"] (spTwo c) :=
  FnOk.or G_multiplied.calm GE_multiplied fun vs H Q E h => by
    obtain ⟨p, a, b, ns, ms, rfl, ha, hb, la, lb, q⟩ := h
    by_cases hw : wRows p ns ms = .done
    · obtain ⟨hp, hr1, hr2⟩ := rows_done hw
      exact .inl ⟨p, a, b, ns, ms, rfl, hp, SqL.of ha, SqL.of hb, hr1, hr2, (by omega), (by omega), fun r H' hs _ => (q H' hs).1 hw _⟩
    · exact .inr ⟨p, a, b, ns, ms, rfl, SqL.of ha, SqL.of hb, hw, q⟩
theorem okE_common {n : Nat} {f f1 : Addr} {fd d1 : FuncData} {c : Cls8} (F : Fun K "common" "common" s_common f fd) (T : Txt K mg) (D_check_rows : Df K mg "check_rows" f1 d1 ["prime", "one", "two"]) (GE_check_rows : FnOk P w K mg base (CXE P w) n f1 d1 ["prime", "one", "two"] (spCkRowsE K c)) :
    FnOk P w K mg base (CXE P w) (n + 1) f fd ["prime", "one", "two"] (spTwoB K c) := by
  refine F.okE sc_common (fun vs H Q E h => ?_) (fun cdv A outer s H vs Q E hr h => ?_)
  · obtain ⟨p, a, b, ns, ms, rfl, _⟩ := h
    rfl
  obtain ⟨p, a, b, ns, ms, rfl, hSa, hSb, hw, q⟩ := h
  refine ⟨_, (pss_cons (ps_expr (pcallE D_check_rows GE_check_rows hr (pa_cons (pv 0) (pa_cons (pv 1) (pa_cons (pv 2) pa_nil)))))
    pss_never), ?_⟩
  exact ⟨_, rfl, _, rfl, _, rfl, p, a, b, ns, ms, rfl, hSa, hSb, q.only hw⟩
theorem okC_common {k : Nat} {f : Addr} {fd : FuncData} {c : Cls8} (G_common : FnOk P w K mg base CX0 k f fd ["prime", "one", "two"] spCommonOf) (GE_common : FnOk P w K mg base (CXE P w) k f fd ["prime", "one", "two"] (spTwoB K c)) : FnOk P w K mg base (CXE P w) k f fd ["prime", "one", "two"] (spTwo c) :=
  FnOk.or G_common.calm GE_common fun vs H Q E h => by
    obtain ⟨p, a, b, ns, ms, rfl, ha, hb, la, lb, q⟩ := h
    by_cases hw : wRows p ns ms = .done
    · obtain ⟨hp, hr1, hr2⟩ := rows_done hw
      exact .inl ⟨p, a, b, ns, ms, rfl, hp, ha, hb, hr1, hr2, (by omega), (by omega), fun t r0 r1 r2 g u v H' hs _ _ _ _ _ _ _ _ _ _ _ => (q H' hs).1 hw _⟩
    · exact .inr ⟨p, a, b, ns, ms, rfl, SqL.of ha, SqL.of hb, hw, q⟩
theorem okE_divides {n : Nat} {f f1 : Addr} {fd d1 : FuncData} {c : Cls8} (F : Fun K "divides" "divides" s_divides f fd) (T : Txt K mg) (D_check_rows : Df K mg "check_rows" f1 d1 ["prime", "one", "two"]) (GE_check_rows : FnOk P w K mg base (CXE P w) n f1 d1 ["prime", "one", "two"] (spCkRowsE K c)) :
    FnOk P w K mg base (CXE P w) (n + 1) f fd ["prime", "one", "two"] (spTwoB K c) := by
  refine F.okE sc_divides (fun vs H Q E h => ?_) (fun cdv A outer s H vs Q E hr h => ?_)
  · obtain ⟨p, a, b, ns, ms, rfl, _⟩ := h
    rfl
  obtain ⟨p, a, b, ns, ms, rfl, hSa, hSb, hw, q⟩ := h
  refine ⟨_, (pss_cons (ps_expr (pcallE D_check_rows GE_check_rows hr (pa_cons (pv 0) (pa_cons (pv 1) (pa_cons (pv 2) pa_nil)))))
    pss_never), ?_⟩
  exact ⟨_, rfl, _, rfl, _, rfl, p, a, b, ns, ms, rfl, hSa, hSb, q.only hw⟩
theorem okC_divides {k : Nat} {f : Addr} {fd : FuncData} {c : Cls8} (G_divides : FnOk P w K mg base CX0 k f fd ["prime", "one", "two"] (spDivides K)) (GE_divides : FnOk P w K mg base (CXE P w) k f fd ["prime", "one", "two"] (spTwoB K c)) : FnOk P w K mg base (CXE P w) k f fd ["prime", "one", "two"] (spTwo c) :=
  FnOk.or G_divides.calm GE_divides fun vs H Q E h => by
    obtain ⟨p, a, b, ns, ms, rfl, ha, hb, la, lb, q⟩ := h
    by_cases hw : wRows p ns ms = .done
    · obtain ⟨hp, hr1, hr2⟩ := rows_done hw
      exact .inl ⟨p, a, b, ns, ms, rfl, hp, SqL.of ha, SqL.of hb, hr1, hr2, (by omega), (by omega), fun t H' hs _ => (q H' hs).1 hw _⟩
    · exact .inr ⟨p, a, b, ns, ms, rfl, SqL.of ha, SqL.of hb, hw, q⟩
def spSplitB (K : PySem.W.Frag) (c : Cls8) : Sp := fun vs H Q E => ∃ (p : Int) (a b : Addr) (ns ms : List Int), vs = [.int p, .ref a, .ref b] ∧ SqL K H a (ns.map V.int) ∧ SqL K H b (ms.map V.int) ∧ wSplit p ns ms ≠ .done ∧ Says c (wSplit p ns ms) H Q E
def spSplitE (c : Cls8) : Sp := fun vs H Q E => ∃ (p : Int) (a b : Addr) (ns ms : List Int), vs = [.int p, .ref a, .ref b] ∧ H a = some (.lst (ns.map V.int)) ∧ H b = some (.lst (ms.map V.int)) ∧ ns.length ≤ 50 ∧ ms.length ≤ 50 ∧ Says c (wSplit p ns ms) H Q E
theorem okE_split {n : Nat} {f f1 : Addr} {fd d1 : FuncData} {c : Cls8} (F : Fun K "split" "split" s_split f fd) (T : Txt K mg) (T_NoDivisor : mg "NoDivisor" = some (.ref c.D)) (X_NoDivisor : PySem.W.excIn K c.D bmV "ValueError.__new__" = true)
    (D_check_rows : Df K mg "check_rows" f1 d1 ["prime", "one", "two"]) (GE_check_rows : FnOk P w K mg base (CXE P w) n f1 d1 ["prime", "one", "two"] (spCkRowsE K c)) :
    FnOk P w K mg base (CXE P w) (n + 1) f fd ["prime", "one", "two"] (spSplitB K c) := by
  refine F.okE sc_split (fun vs H Q E h => ?_) (fun cdv A outer s H vs Q E hr h => ?_)
  · obtain ⟨p, a, b, ns, ms, rfl, _⟩ := h
    rfl
  obtain ⟨p, a, b, ns, ms, rfl, hSa, hSb, hw, q⟩ := h
  refine ⟨_, (pss_cons (ps_expr (pcallE D_check_rows GE_check_rows hr (pa_cons (pv 0) (pa_cons (pv 1) (pa_cons (pv 2) pa_nil)))))
    (pss_cons (ps_if (pt_cmpR op_eqI (pe_callB call_len_seq rfl T.len bt_len (pa_cons (pv 2) pa_nil)) pe_int (nomark _)) (pss_one (ps_raise T_NoDivisor X_NoDivisor)) pss_nil)
    pss_never)), ?_⟩
  refine ⟨_, rfl, _, rfl, _, rfl, p, a, b, ns, ms, rfl, hSa, hSb, q.first0 fun e1 q => ?_⟩
  refine ⟨_, rfl, b, _, rfl, .inl hSb, _, _, rfl, rfl, _, rfl, ?_⟩
  rw [List.length_map]
  refine ite2 (fun d => ?_) (fun d => ?_)
  · have d' : ((ms.length : Nat) : Int) = 0 := of_decide_eq_true d
    have e : ifW (ms ≠ []) .none = .none := ifW_ne fun z => z (List.length_eq_zero_iff.mp (by omega))
    rw [e] at q
    exact (q H (Same.refl H)).2 (by decide)
  · have d' : ¬ ((ms.length : Nat) : Int) = 0 := of_decide_eq_false (Bool.eq_false_iff.mpr d)
    exact absurd (show wSplit p ns ms = .done by unfold wSplit; rw [thenW_done e1, ifW_done fun z => d' (by rw [z]; rfl)]) hw
theorem okC_split {k : Nat} {f : Addr} {fd : FuncData} {c : Cls8} (G_split : FnOk P w K mg base CX0 k f fd ["prime", "one", "two"] (spSplit K)) (GE_split : FnOk P w K mg base (CXE P w) k f fd ["prime", "one", "two"] (spSplitB K c)) : FnOk P w K mg base (CXE P w) k f fd ["prime", "one", "two"] (spSplitE c) :=
  FnOk.or G_split.calm GE_split fun vs H Q E h => by
    obtain ⟨p, a, b, ns, ms, rfl, ha, hb, la, lb, q⟩ := h
    by_cases hw : wSplit p ns ms = .done
    · obtain ⟨h1, h2⟩ := thenW_both hw
      obtain ⟨hp, hr1, hr2⟩ := rows_done h1
      exact .inl ⟨p, a, b, ns, ms, rfl, hp, SqL.of ha, SqL.of hb, hr1, hr2, ifW_of (by decide) h2, (by omega), (by omega), fun t r1 r2 qs rs H' hs _ _ _ _ _ _ _ _ => (q H' hs).1 hw _⟩
    · exact .inr ⟨p, a, b, ns, ms, rfl, SqL.of ha, SqL.of hb, hw, q⟩
def spWorthB (K : PySem.W.Frag) (c : Cls8) : Sp := fun vs H Q E => ∃ (p : Int) (a : Addr) (ns : List Int) (x : Int), vs = [.int p, .ref a, .int x] ∧ SqL K H a (ns.map V.int) ∧ wWorth p ns x ≠ .done ∧ Says c (wWorth p ns x) H Q E
def spWorthE (c : Cls8) : Sp := fun vs H Q E => ∃ (p : Int) (a : Addr) (ns : List Int) (x : Int), vs = [.int p, .ref a, .int x] ∧ H a = some (.lst (ns.map V.int)) ∧ Says c (wWorth p ns x) H Q E
theorem okE_worth {n : Nat} {f f1 f2 f3 : Addr} {fd d1 d2 d3 : FuncData} {c : Cls8} (F : Fun K "worth" "worth" s_worth f fd) (T : Txt K mg) (D_check_prime : Df K mg "check_prime" f1 d1 ["prime"]) (GE_check_prime : FnOk P w K mg base (CXE P w) n f1 d1 ["prime"] (spCkPrimeE c))
    (D_check_row : Df K mg "check_row" f2 d2 ["prime", "row"]) (GE_check_row : FnOk P w K mg base (CXE P w) n f2 d2 ["prime", "row"] (spCkRowE K c)) (D_check_remainder : Df K mg "check_remainder" f3 d3 ["prime", "number"]) (GE_check_remainder : FnOk P w K mg base (CXE P w) n f3 d3 ["prime", "number"] (spCkRemE c)) :
    FnOk P w K mg base (CXE P w) (n + 1) f fd ["prime", "row", "spot"] (spWorthB K c) := by
  refine F.okE sc_worth (fun vs H Q E h => ?_) (fun cdv A outer s H vs Q E hr h => ?_)
  · obtain ⟨p, a, ns, x, rfl, _⟩ := h
    rfl
  obtain ⟨p, a, ns, x, rfl, hS, hw, q⟩ := h
  refine ⟨_, (pss_cons (ps_expr (pcallE D_check_prime GE_check_prime hr (pa_cons (pv 0) pa_nil)))
    (pss_cons (ps_expr (pcallE D_check_row GE_check_row hr (pa_cons (pv 0) (pa_cons (pv 1) pa_nil))))
    (pss_cons (ps_expr (pcallE D_check_remainder GE_check_remainder hr (pa_cons (pv 0) (pa_cons (pv 2) pa_nil))))
    pss_never))), ?_⟩
  refine ⟨_, rfl, p, rfl, q.first0 fun e1 q => ?_⟩
  refine ⟨_, rfl, _, rfl, p, a, ns, rfl, hS, q.first0 fun e2 q => ?_⟩
  exact ⟨_, rfl, _, rfl, p, x, rfl, fun e3 => absurd (show wWorth p ns x = .done by unfold wWorth; rw [thenW_done e1, thenW_done e2, e3]) hw, (q H (Same.refl H)).2⟩
theorem okC_worth {k : Nat} {f : Addr} {fd : FuncData} {c : Cls8} (G_worth : FnOk P w K mg base CX0 k f fd ["prime", "row", "spot"] (spWorth K)) (GE_worth : FnOk P w K mg base (CXE P w) k f fd ["prime", "row", "spot"] (spWorthB K c)) : FnOk P w K mg base (CXE P w) k f fd ["prime", "row", "spot"] (spWorthE c) :=
  FnOk.or G_worth.calm GE_worth fun vs H Q E h => by
    obtain ⟨p, a, ns, x, rfl, ha, q⟩ := h
    by_cases hw : wWorth p ns x = .done
    · obtain ⟨h1, h2⟩ := thenW_both hw
      obtain ⟨h2, h3⟩ := thenW_both h2
      have hx : 0 ≤ x ∧ x < p := ifW_of (by decide) h3
      exact .inl ⟨p, a, ns, x, rfl, ifW_of (by decide) h1, SqL.of ha, ifW_of (by decide) h2, hx.1, hx.2, (q H (Same.refl H)).1 hw _⟩
    · exact .inr ⟨p, a, ns, x, rfl, SqL.of ha, hw, q⟩
def spRootsB (K : PySem.W.Frag) (c : Cls8) : Sp := fun vs H Q E => ∃ (p : Int) (a : Addr) (ns : List Int), vs = [.int p, .ref a] ∧ SqL K H a (ns.map V.int) ∧ wRoots p ns ≠ .done ∧ Says c (wRoots p ns) H Q E
def spRootsE (c : Cls8) : Sp := fun vs H Q E => ∃ (p : Int) (a : Addr) (ns : List Int), vs = [.int p, .ref a] ∧ H a = some (.lst (ns.map V.int)) ∧ ns.length ≤ 50 ∧ Says c (wRoots p ns) H Q E
theorem okE_roots {n : Nat} {f f1 f2 : Addr} {fd d1 d2 : FuncData} {c : Cls8} (F : Fun K "roots" "roots" s_roots f fd) (T : Txt K mg) (T_AllRoots : mg "AllRoots" = some (.ref c.A)) (X_AllRoots : PySem.W.excIn K c.A bmV "ValueError.__new__" = true)
    (D_check_prime : Df K mg "check_prime" f1 d1 ["prime"]) (GE_check_prime : FnOk P w K mg base (CXE P w) n f1 d1 ["prime"] (spCkPrimeE c))
    (D_check_row : Df K mg "check_row" f2 d2 ["prime", "row"]) (GE_check_row : FnOk P w K mg base (CXE P w) n f2 d2 ["prime", "row"] (spCkRowE K c)) :
    FnOk P w K mg base (CXE P w) (n + 1) f fd ["prime", "row"] (spRootsB K c) := by
  refine F.okE sc_roots (fun vs H Q E h => ?_) (fun cdv A outer s H vs Q E hr h => ?_)
  · obtain ⟨p, a, ns, rfl, _⟩ := h
    rfl
  obtain ⟨p, a, ns, rfl, hS, hw, q⟩ := h
  refine ⟨_, (pss_cons (ps_expr (pcallE D_check_prime GE_check_prime hr (pa_cons (pv 0) pa_nil)))
    (pss_cons (ps_expr (pcallE D_check_row GE_check_row hr (pa_cons (pv 0) (pa_cons (pv 1) pa_nil))))
    (pss_cons (ps_if (pt_cmpR op_eqI (pe_callB call_len_seq rfl T.len bt_len (pa_cons (pv 1) pa_nil)) pe_int (nomark _)) (pss_one (ps_raise T_AllRoots X_AllRoots)) pss_nil)
    pss_never))), ?_⟩
  refine ⟨_, rfl, p, rfl, q.first0 fun e1 q => ?_⟩
  refine ⟨_, rfl, _, rfl, p, a, ns, rfl, hS, q.first0 fun e2 q => ?_⟩
  refine ⟨_, rfl, a, _, rfl, .inl hS, _, _, rfl, rfl, _, rfl, ?_⟩
  rw [List.length_map]
  refine ite2 (fun d => ?_) (fun d => ?_)
  · have d' : ((ns.length : Nat) : Int) = 0 := of_decide_eq_true d
    have e : ifW (ns ≠ []) .all = .all := ifW_ne fun z => z (List.length_eq_zero_iff.mp (by omega))
    rw [e] at q
    exact (q H (Same.refl H)).2 (by decide)
  · have d' : ¬ ((ns.length : Nat) : Int) = 0 := of_decide_eq_false (Bool.eq_false_iff.mpr d)
    exact absurd (show wRoots p ns = .done by unfold wRoots; rw [thenW_done e1, thenW_done e2, ifW_done fun z => d' (by rw [z]; rfl)]) hw
theorem okC_roots {k : Nat} {f : Addr} {fd : FuncData} {c : Cls8} (G_roots : FnOk P w K mg base CX0 k f fd ["prime", "row"] (spRoots K)) (GE_roots : FnOk P w K mg base (CXE P w) k f fd ["prime", "row"] (spRootsB K c)) : FnOk P w K mg base (CXE P w) k f fd ["prime", "row"] (spRootsE c) :=
  FnOk.or G_roots.calm GE_roots fun vs H Q E h => by
    obtain ⟨p, a, ns, rfl, ha, la, q⟩ := h
    by_cases hw : wRoots p ns = .done
    · obtain ⟨h1, h2⟩ := thenW_both hw
      obtain ⟨h2, h3⟩ := thenW_both h2
      exact .inl ⟨p, a, ns, rfl, ifW_of (by decide) h1, ha, ifW_of (by decide) h2, ifW_of (by decide) h3, (by omega), fun t r1 r2 ts prs lf H' hs _ _ _ _ _ => (q H' hs).1 hw _⟩
    · exact .inr ⟨p, a, ns, rfl, SqL.of ha, hw, q⟩
theorem okC_inverse {k : Nat} {f : Addr} {fd : FuncData} {c : Cls8} (GE_inverse : FnOk P w K mg base (CXE P w) k f fd ["prime", "number"] (spInvE c)) : FnOk P w K mg base (CXE P w) k f fd ["prime", "number"] (spInvE c) :=
  GE_inverse
def spThruB (K : PySem.W.Frag) (c : Cls8) (o : Int) (more : List V) : Sp := fun vs H Q E => ∃ (p : Int) (a : Addr) (ts : List Addr) (pts : List (Int × Int)), vs = .int p :: .ref a :: more ∧ SqL K H a (ts.map V.ref) ∧ Pts H ts pts ∧ pts.length ≤ 50 ∧ wThru p o pts ≠ .done ∧ Says c (wThru p o pts) H Q E
def spThruE (c : Cls8) (o : Int) (more : List V) : Sp := fun vs H Q E => ∃ (p : Int) (a : Addr) (ts : List Addr) (pts : List (Int × Int)), vs = .int p :: .ref a :: more ∧ H a = some (.lst (ts.map V.ref)) ∧ Pts H ts pts ∧ pts.length ≤ 50 ∧ Says c (wThru p o pts) H Q E
theorem okE_through {n : Nat} {f f1 f2 : Addr} {fd d1 d2 : FuncData} {c : Cls8} (F : Fun K "through" "through" s_through f fd) (T : Txt K mg) (D_check_prime : Df K mg "check_prime" f1 d1 ["prime"]) (GE_check_prime : FnOk P w K mg base (CXE P w) n f1 d1 ["prime"] (spCkPrimeE c))
    (D_check_points : Df K mg "check_points" f2 d2 ["prime", "points"]) (GE_check_points : FnOk P w K mg base (CXE P w) n f2 d2 ["prime", "points"] (spCkPointsE K c)) :
    FnOk P w K mg base (CXE P w) (n + 1) f fd ["prime", "points"] (spThruB K c 0 []) := by
  refine F.okE sc_through (fun vs H Q E h => ?_) (fun cdv A outer s H vs Q E hr h => ?_)
  · obtain ⟨p, a, ts, pts, rfl, _⟩ := h
    rfl
  obtain ⟨p, a, ts, pts, rfl, hS, hP, hl, hw, q⟩ := h
  refine ⟨_, (pss_cons (ps_expr (pcallE D_check_prime GE_check_prime hr (pa_cons (pv 0) pa_nil)))
    (pss_cons (ps_expr (pcallE D_check_points GE_check_points hr (pa_cons (pv 0) (pa_cons (pv 1) pa_nil))))
    pss_never)), ?_⟩
  refine ⟨_, rfl, p, rfl, q.first0 fun e1 q => ?_⟩
  refine ⟨_, rfl, _, rfl, p, a, ts, pts, rfl, hS, hP, (by omega), q.weak fun e2 => hw ?_⟩
  unfold wThru
  rw [thenW_done e1, e2]
theorem okC_through {k : Nat} {f : Addr} {fd : FuncData} {c : Cls8} (G_through : FnOk P w K mg base CX0 k f fd ["prime", "points"] (spThrough K)) (GE_through : FnOk P w K mg base (CXE P w) k f fd ["prime", "points"] (spThruB K c 0 [])) : FnOk P w K mg base (CXE P w) k f fd ["prime", "points"] (spThruE c 0 []) :=
  FnOk.or G_through.calm GE_through fun vs H Q E h => by
    obtain ⟨p, a, ts, pts, rfl, ha, hP, hl, q⟩ := h
    by_cases hw : wThru p 0 pts = .done
    · obtain ⟨hp, hg⟩ := thru_done hw
      exact .inl ⟨p, a, ts, pts, rfl, hp, SqL.of ha, hP, hg, (by omega), fun r row H' hs _ _ _ _ => (q H' hs).1 hw _⟩
    · exact .inr ⟨p, a, ts, pts, rfl, SqL.of ha, hP, hl, hw, q⟩
theorem okE_secret_by {n : Nat} {f f1 f2 : Addr} {fd d1 d2 : FuncData} {c : Cls8} (F : Fun K "secret_by" "secret_by" s_secret_by f fd) (T : Txt K mg) (D_check_prime : Df K mg "check_prime" f1 d1 ["prime"]) (GE_check_prime : FnOk P w K mg base (CXE P w) n f1 d1 ["prime"] (spCkPrimeE c))
    (D_check_shares : Df K mg "check_shares" f2 d2 ["prime", "shares"]) (GE_check_shares : FnOk P w K mg base (CXE P w) n f2 d2 ["prime", "shares"] (spCkSharesE K c)) :
    FnOk P w K mg base (CXE P w) (n + 1) f fd ["prime", "shares"] (spThruB K c 1 []) := by
  refine F.okE sc_secret_by (fun vs H Q E h => ?_) (fun cdv A outer s H vs Q E hr h => ?_)
  · obtain ⟨p, a, ts, pts, rfl, _⟩ := h
    rfl
  obtain ⟨p, a, ts, pts, rfl, hS, hP, hl, hw, q⟩ := h
  refine ⟨_, (pss_cons (ps_expr (pcallE D_check_prime GE_check_prime hr (pa_cons (pv 0) pa_nil)))
    (pss_cons (ps_expr (pcallE D_check_shares GE_check_shares hr (pa_cons (pv 0) (pa_cons (pv 1) pa_nil))))
    pss_never)), ?_⟩
  refine ⟨_, rfl, p, rfl, q.first0 fun e1 q => ?_⟩
  refine ⟨_, rfl, _, rfl, p, a, ts, pts, rfl, hS, hP, (by omega), q.weak fun e2 => hw ?_⟩
  unfold wThru
  rw [thenW_done e1, e2]
theorem okC_secret_by {k : Nat} {f : Addr} {fd : FuncData} {c : Cls8} (G_secret_by : FnOk P w K mg base CX0 k f fd ["prime", "shares"] (spSecret K)) (GE_secret_by : FnOk P w K mg base (CXE P w) k f fd ["prime", "shares"] (spThruB K c 1 [])) : FnOk P w K mg base (CXE P w) k f fd ["prime", "shares"] (spThruE c 1 []) :=
  FnOk.or G_secret_by.calm GE_secret_by fun vs H Q E h => by
    obtain ⟨p, a, ts, pts, rfl, ha, hP, hl, q⟩ := h
    by_cases hw : wThru p 1 pts = .done
    · obtain ⟨hp, hg⟩ := thru_done hw
      exact .inl ⟨p, a, ts, pts, rfl, hp, SqL.of ha, hP, hg, (by omega), fun v row H' hs _ _ _ _ => (q H' hs).1 hw _⟩
    · exact .inr ⟨p, a, ts, pts, rfl, SqL.of ha, hP, hl, hw, q⟩
theorem okE_first_off {n : Nat} {f f1 f2 : Addr} {fd d1 d2 : FuncData} {c : Cls8} {nd : Int} (F : Fun K "first_off" "first_off" s_first_off f fd) (T : Txt K mg) (D_check_prime : Df K mg "check_prime" f1 d1 ["prime"]) (GE_check_prime : FnOk P w K mg base (CXE P w) n f1 d1 ["prime"] (spCkPrimeE c))
    (D_check_shares : Df K mg "check_shares" f2 d2 ["prime", "shares"]) (GE_check_shares : FnOk P w K mg base (CXE P w) n f2 d2 ["prime", "shares"] (spCkSharesE K c)) :
    FnOk P w K mg base (CXE P w) (n + 1) f fd ["prime", "shares", "needed"] (spThruB K c 1 [.int nd]) := by
  refine F.okE sc_first_off (fun vs H Q E h => ?_) (fun cdv A outer s H vs Q E hr h => ?_)
  · obtain ⟨p, a, ts, pts, rfl, _⟩ := h
    rfl
  obtain ⟨p, a, ts, pts, rfl, hS, hP, hl, hw, q⟩ := h
  refine ⟨_, (pss_cons (ps_expr (pcallE D_check_prime GE_check_prime hr (pa_cons (pv 0) pa_nil)))
    (pss_cons (ps_expr (pcallE D_check_shares GE_check_shares hr (pa_cons (pv 0) (pa_cons (pv 1) pa_nil))))
    pss_never)), ?_⟩
  refine ⟨_, rfl, p, rfl, q.first0 fun e1 q => ?_⟩
  refine ⟨_, rfl, _, rfl, p, a, ts, pts, rfl, hS, hP, (by omega), q.weak fun e2 => hw ?_⟩
  unfold wThru
  rw [thenW_done e1, e2]
theorem okC_first_off {k : Nat} {f : Addr} {fd : FuncData} {c : Cls8} {nd : Int} (G_first_off : FnOk P w K mg base CX0 k f fd ["prime", "shares", "needed"] (spFirstOff K)) (GE_first_off : FnOk P w K mg base (CXE P w) k f fd ["prime", "shares", "needed"] (spThruB K c 1 [.int nd])) : FnOk P w K mg base (CXE P w) k f fd ["prime", "shares", "needed"] (spThruE c 1 [.int nd]) :=
  FnOk.or G_first_off.calm GE_first_off fun vs H Q E h => by
    obtain ⟨p, a, ts, pts, rfl, ha, hP, hl, q⟩ := h
    by_cases hw : wThru p 1 pts = .done
    · obtain ⟨hp, hg⟩ := thru_done hw
      exact .inl ⟨p, nd, a, ts, pts, rfl, hp, SqL.of ha, hP, hg, (by omega), fun rows H' hs _ _ => ⟨fun k _ _ _ => (q H' hs).1 hw _, fun _ => (q H' hs).1 hw _⟩⟩
    · exact .inr ⟨p, a, ts, pts, rfl, SqL.of ha, hP, hl, hw, q⟩
def spRowForB (K : PySem.W.Frag) (c : Cls8) : Sp := fun vs H Q E => ∃ (p nd x : Int) (a : Addr) (ts : List Addr) (pts : List (Int × Int)), vs = [.int p, .ref a, .int nd, .int x] ∧ SqL K H a (ts.map V.ref) ∧ Pts H ts pts ∧ pts.length ≤ 50 ∧ thenW (wThru p 1 pts) (wRem p x) ≠ .done ∧ Says c (thenW (wThru p 1 pts) (wRem p x)) H Q E
def spRowForC (c : Cls8) : Sp := fun vs H Q E => ∃ (p nd x : Int) (a : Addr) (ts : List Addr) (pts : List (Int × Int)), vs = [.int p, .ref a, .int nd, .int x] ∧ H a = some (.lst (ts.map V.ref)) ∧ Pts H ts pts ∧ pts.length ≤ 50 ∧ Says c (wRowFor p pts nd x) H Q E
theorem okE_row_for {n : Nat} {f f1 f2 f3 : Addr} {fd d1 d2 d3 : FuncData} {c : Cls8} (F : Fun K "row_for" "row_for" s_row_for f fd) (T : Txt K mg) (D_check_prime : Df K mg "check_prime" f1 d1 ["prime"]) (GE_check_prime : FnOk P w K mg base (CXE P w) n f1 d1 ["prime"] (spCkPrimeE c))
    (D_check_shares : Df K mg "check_shares" f2 d2 ["prime", "shares"]) (GE_check_shares : FnOk P w K mg base (CXE P w) n f2 d2 ["prime", "shares"] (spCkSharesE K c))
    (D_check_remainder : Df K mg "check_remainder" f3 d3 ["prime", "number"]) (GE_check_remainder : FnOk P w K mg base (CXE P w) n f3 d3 ["prime", "number"] (spCkRemE c)) :
    FnOk P w K mg base (CXE P w) (n + 1) f fd ["prime", "shares", "needed", "secret"] (spRowForB K c) := by
  refine F.okE sc_row_for (fun vs H Q E h => ?_) (fun cdv A outer s H vs Q E hr h => ?_)
  · obtain ⟨p, nd, x, a, ts, pts, rfl, _⟩ := h
    rfl
  obtain ⟨p, nd, x, a, ts, pts, rfl, hS, hP, hl, hw, q⟩ := h
  refine ⟨_, (pss_cons (ps_expr (pcallE D_check_prime GE_check_prime hr (pa_cons (pv 0) pa_nil)))
    (pss_cons (ps_expr (pcallE D_check_shares GE_check_shares hr (pa_cons (pv 0) (pa_cons (pv 1) pa_nil))))
    (pss_cons (ps_expr (pcallE D_check_remainder GE_check_remainder hr (pa_cons (pv 0) (pa_cons (pv 3) pa_nil))))
    pss_never))), ?_⟩
  have qA : wPr p ≠ .done → E (.ref (c.at (wPr p))) none H := fun e => by
    have e1 : wThru p 1 pts = wPr p := thenW_ne e
    have z := q.out (by rw [e1]; exact e) (Same.refl H)
    rwa [e1] at z
  refine ⟨_, rfl, p, rfl, fun e1 => ?_, qA⟩
  have e2 : wThru p 1 pts = wPts p 1 pts := thenW_done e1
  rw [e2] at q hw
  refine ⟨_, rfl, _, rfl, p, a, ts, pts, rfl, hS, hP, (by omega), q.first fun e3 H1 v hs q => ?_⟩
  exact ⟨_, rfl, _, rfl, p, x, rfl, q.only fun e4 => hw (by rw [thenW_done e3, e4])⟩
theorem okC_row_for {k : Nat} {f : Addr} {fd : FuncData} {c : Cls8} (G_row_for : FnOk P w K mg base (CXE P w) k f fd ["prime", "shares", "needed", "secret"] (spRowForE K c.E)) (GE_row_for : FnOk P w K mg base (CXE P w) k f fd ["prime", "shares", "needed", "secret"] (spRowForB K c)) :
    FnOk P w K mg base (CXE P w) k f fd ["prime", "shares", "needed", "secret"] (spRowForC c) :=
  FnOk.or G_row_for GE_row_for fun vs H Q E h => by
    obtain ⟨p, nd, x, a, ts, pts, rfl, ha, hP, hl, q⟩ := h
    by_cases hw : thenW (wThru p 1 pts) (wRem p x) = .done
    · obtain ⟨h1, h2⟩ := thenW_both hw
      obtain ⟨hp, hg⟩ := thru_done h1
      have hx : 0 ≤ x ∧ x < p := ifW_of (by decide) h2
      have q' := q.next hw (Same.refl H)
      refine .inl ⟨p, x, nd, a, ts, pts, rfl, hp, hx.1, hx.2, ha, hP, hg, (by omega), fun hn H' hs => ?_, fun hn r row H' hs _ _ _ _ _ => (q' H' hs).1 (ifW_done hn) _⟩
      have e : ifW ((pts.length : Int) < nd) .enough = .enough := ifW_ne (by omega)
      rw [e] at q'
      exact (q' H' hs).2 (by decide)
    · exact .inr ⟨p, nd, x, a, ts, pts, rfl, SqL.of ha, hP, hl, hw, fun H' hs => ⟨fun z => absurd z hw, fun _ => q.out hw hs⟩⟩
def spSharesB (c : Cls8) : Sp := fun vs H Q E => ∃ (p x cn : Int) (a : Addr) (os : List Int), vs = [.int p, .int x, .ref a, .int cn] ∧ H a = some (.lst (os.map V.int)) ∧ os.length ≤ 50 ∧ thenW (wPr p) (wAllRem p (x :: os)) ≠ .done ∧ Says c (thenW (wPr p) (wAllRem p (x :: os))) H Q E
def spSharesC (c : Cls8) : Sp := fun vs H Q E => ∃ (p x : Int) (cn : Nat) (a : Addr) (os : List Int), vs = [.int p, .int x, .ref a, .int (cn : Int)] ∧ H a = some (.lst (os.map V.int)) ∧ os.length ≤ 50 ∧ cn ≤ 200 ∧ Says c (wShares p x os cn) H Q E
theorem okE_shares_of {n : Nat} {f f1 f2 : Addr} {fd d1 d2 : FuncData} {c : Cls8} (F : Fun K "shares_of" "shares_of" s_shares_of f fd) (T : Txt K mg) (D_check_prime : Df K mg "check_prime" f1 d1 ["prime"]) (GE_check_prime : FnOk P w K mg base (CXE P w) n f1 d1 ["prime"] (spCkPrimeE c))
    (D_check_remainder : Df K mg "check_remainder" f2 d2 ["prime", "number"]) (GE_check_remainder : FnOk P w K mg base (CXE P w) n f2 d2 ["prime", "number"] (spCkRemE c)) :
    FnOk P w K mg base (CXE P w) (n + 1) f fd ["prime", "secret", "others", "count"] (spSharesB c) := by
  refine F.okE sc_shares_of (fun vs H Q E h => ?_) (fun cdv A outer s H vs Q E hr h => ?_)
  · obtain ⟨p, x, cn, a, os, rfl, _⟩ := h
    rfl
  obtain ⟨p, sc, cn, a, os, rfl, hA, hol, hw, q⟩ := h
  refine ⟨_, (pss_cons (ps_expr (pcallE D_check_prime GE_check_prime hr (pa_cons (pv 0) pa_nil)))
    (pss_cons (ps_set (i := 4) sc_shares_of.nd rfl (Or.inr rfl) (pe_op op_cat (pe_lst (pa_cons (pv 1) pa_nil)) (pv 2)))
    (pss_cons (ps_forL rfl (pi_list (pv 4)) (pg_name (i := 5) sc_shares_of.nd rfl (Or.inl rfl)) (pss_one (ps_expr (pcallL D_check_remainder GE_check_remainder hr (pa_cons (pv 0) (pa_cons (pv 5) pa_nil))))))
    pss_never))), ?_⟩
  refine ⟨_, rfl, p, rfl, q.first0 fun e1 q => ?_⟩
  rw [thenW_done e1] at hw
  refine ⟨_, rfl, (by show 1 ≤ sizeLine; decide), fun l hl => ?_⟩
  have s1 := same_new hl (.lst [V.int sc])
  refine ⟨_, rfl, l, a, _, _, rfl, rfl, upd_same, s1 _ _ hA, (by rw [List.length_map]; exact Nat.le_of_lt (small1000 (by simp; omega))), fun b hb => ?_⟩
  have s2 := s1.trans (same_new hb (.lst ([V.int sc] ++ os.map V.int)))
  have hB : upd (upd H l (.lst [V.int sc])) b (.lst ([V.int sc] ++ os.map V.int)) b = some (.lst ((sc :: os).map V.int)) := upd_same
  generalize upd (upd H l (.lst [V.int sc])) b (.lst ([V.int sc] ++ os.map V.int)) = H1 at s2 hB ⊢
  refine ⟨_, rfl, b, rfl, ⟨_, SqL.of hB⟩, for_list (xs := (sc :: os).map V.int) (fun i σ H' => H1 = H' ∧ (∀ j v, j < i → (sc :: os)[j]? = some v → 0 ≤ v ∧ v < p) ∧ ∃ x, σ = [some (.int p), some (.int sc), some (.ref a), some (.int cn), some (.ref b), x]) ⟨rfl, (fun j v hj => absurd hj (Nat.not_lt_zero j)), _, rfl⟩ (fun i σ H' _ h => SqL.of (h.1 ▸ hB)) ?_ ?_⟩
  · rintro i x σ H' hx ⟨e, hb, x0, rfl⟩
    subst e
    obtain ⟨v, rfl, hv⟩ := int_at hx
    refine ⟨_, rfl, _, rfl, p, v, rfl, fun e2 => ?_, fun e2 => ?_⟩
    · have h2 : 0 ≤ v ∧ v < p := ifW_of (by decide) e2
      refine ⟨rfl, fun j u hj hu => ?_, _, rfl⟩
      rcases Nat.lt_succ_iff_lt_or_eq.mp hj with hj | rfl
      · exact hb j u hj hu
      · rw [hv] at hu
        cases hu
        exact h2
    · have hn : ¬ (0 ≤ v ∧ v < p) := fun z => e2 (ifW_done z)
      have e : wRem p v = .spot := ifW_ne hn
      have e' : wAllRem p (sc :: os) = .spot := ifW_ne fun z => hn (z v (List.mem_of_getElem? hv))
      rw [e]
      rw [e'] at q
      exact (q H1 s2).2 (by decide)
  rintro σ H' ⟨e, hb, x, rfl⟩
  refine absurd (ifW_done fun x hx => ?_) hw
  obtain ⟨j, hj⟩ := List.mem_iff_getElem?.mp hx
  exact hb j x (by rw [List.length_map]; exact (List.getElem?_eq_some_iff.mp hj).1) hj
theorem okC_shares_of {k : Nat} {f : Addr} {fd : FuncData} {c : Cls8} (G_shares_of : FnOk P w K mg base (CXE P w) k f fd ["prime", "secret", "others", "count"] (spSharesE c.M)) (GE_shares_of : FnOk P w K mg base (CXE P w) k f fd ["prime", "secret", "others", "count"] (spSharesB c)) :
    FnOk P w K mg base (CXE P w) k f fd ["prime", "secret", "others", "count"] (spSharesC c) :=
  FnOk.or G_shares_of GE_shares_of fun vs H Q E h => by
    obtain ⟨p, x, cn, a, os, rfl, ha, hl, hcn, q⟩ := h
    by_cases hw : thenW (wPr p) (wAllRem p (x :: os)) = .done
    · obtain ⟨h1, h2⟩ := thenW_both hw
      have hx : ∀ y ∈ x :: os, 0 ≤ y ∧ y < p := ifW_of (by decide) h2
      have q' := q.next hw (Same.refl H)
      refine .inl ⟨p, x, a, os, cn, rfl, ifW_of (by decide) h1, (hx x List.mem_cons_self).1, (hx x List.mem_cons_self).2, ha, fun y hy => hx y (List.mem_cons_of_mem _ hy), (by omega), fun hn H' hs => ?_, fun hn => ⟨by omega, fun r ts H' hs _ _ => (q' H' hs).1 (ifW_done hn) _⟩⟩
      have e : ifW ((cn : Int) < p) .many = .many := ifW_ne (by omega)
      rw [e] at q'
      exact (q' H' hs).2 (by decide)
    · exact .inr ⟨p, x, cn, a, os, rfl, ha, hl, hw, fun H' hs => ⟨fun z => absurd z hw, fun _ => q.out hw hs⟩⟩
def Wd.ix : Wd → Nat
  | .done => 0 | .prime => 0 | .row => 1 | .spot => 2 | .none => 3 | .same => 4 | .many => 5 | .enough => 6 | .all => 7
def Cls8.all (c : Cls8) : List Addr := [c.N, c.R, c.B, c.D, c.S, c.M, c.E, c.A]
theorem Cls8.at_ix (c : Cls8) (w : Wd) : c.all.getD w.ix 0 = c.at w := by cases w <;> rfl
def excTab (K : PySem.W.Frag) (c : Cls8) (cl : Addr) : Bool :=
  (List.range 8).all fun i => (List.range 8).all (fun j => PySem.W.exmOne K (.ref (c.all.getD i 0)) (.ref (c.all.getD j 0)) == some (i == j)) && (PySem.W.exmOne K (.ref (c.all.getD i 0)) (.ref cl) == some true) &&
    (PySem.W.kitOne K (.ref (c.all.getD i 0)) (.type "ValueError") == some true) && (PySem.W.clsIn K (c.all.getD i 0)).isSome &&
    (PySem.W.findIn K (.ref (c.all.getD i 0)) "__getattribute__" == some (some (.builtin "BaseException.__getattribute__"))) && (PySem.W.findIn K (.ref (c.all.getD i 0)) "__getattr__" == some none) &&
    (PySem.W.findIn K (.ref (c.all.getD i 0)) "__class__" == some (some (.builtin "object.__class__"))) && (PySem.W.mroIn K (c.all.getD i 0) (.type "object") == some true) && (PySem.W.mroIn K (c.all.getD i 0) (.type "BaseException") == some true)
structure Tab (K : PySem.W.Frag) (c : Cls8) (cl : Addr) : Prop where
  exm : ∀ w v : Wd, w ≠ .done → v ≠ .done → PySem.W.exmOne K (.ref (c.at w)) (.ref (c.at v)) = some (decide (w = v))
  clo : ∀ w : Wd, PySem.W.exmOne K (.ref (c.at w)) (.ref cl) = some true
  val : ∀ w : Wd, PySem.W.kitOne K (.ref (c.at w)) (.type "ValueError") = some true
  exk : ∀ w : Wd, ExcK K (c.at w)
theorem Wd.ix_lt (w : Wd) : w.ix < 8 := by cases w <;> decide
theorem Wd.ix_eq {w v : Wd} (hw : w ≠ .done) (hv : v ≠ .done) : (w.ix == v.ix) = decide (w = v) := by
  cases w <;> cases v <;> first | rfl | exact absurd rfl hw | exact absurd rfl hv
theorem tab_of {K : PySem.W.Frag} {c : Cls8} {cl : Addr} (h : excTab K c cl = true) : Tab K c cl := by
  have key := fun w : Wd => List.all_eq_true.mp h w.ix (List.mem_range.mpr w.ix_lt)
  simp only [Bool.and_eq_true, beq_iff_eq, c.at_ix] at key
  refine ⟨fun w v hw hv => ?_, fun w => (key w).1.1.1.1.1.1.1.2, fun w => (key w).1.1.1.1.1.1.2, fun w => ⟨(key w).1.1.1.1.1.2, (key w).1.1.1.1.2, (key w).1.1.1.2, (key w).1.1.2, (key w).1.2, (key w).2⟩⟩
  have z := List.all_eq_true.mp (key w).1.1.1.1.1.1.1.1 v.ix (List.mem_range.mpr v.ix_lt)
  simp only [beq_iff_eq, c.at_ix] at z
  rw [z, Wd.ix_eq hw hv]
theorem Tab.kit {K : PySem.W.Frag} {c : Cls8} {cl : Addr} (T : Tab K c cl) (w v : Wd) (hw : w ≠ .done) (hv : v ≠ .done) : PySem.W.kitOne K (.ref (c.at w)) (.ref (c.at v)) = some (decide (w = v)) := by
  have e := T.exm w v hw hv
  unfold PySem.W.kitOne
  by_cases h : w = v
  · subst h
    rw [if_pos (by simp), decide_eq_true rfl]
  · rw [decide_eq_false h] at e ⊢
    unfold PySem.W.exmOne at e
    by_cases q : (PySem.W.subIn K (.ref (c.at v)) (.type "BaseException") == some true) = true
    · rw [if_pos q] at e
      rw [if_neg ?_]
      · exact e
      · intro z
        have z' : c.at w = c.at v := Value.ref.inj (beq_iff_eq.mp z)
        have y := T.exm v v hv hv
        rw [← z'] at y
        have x := T.exm w v hw hv
        rw [← z', y, decide_eq_true rfl, decide_eq_false h] at x
        cases x
    · rw [if_neg q] at e
      cases e
abbrev s_L_any_bad : Stmt := top 64
theorem sc_L_any_bad : FnScope ["_law_prime", "_law_numbers", "_law_number"] ["_law_prime", "_law_numbers"] (defScope s_L_any_bad) := ⟨rfl, rfl, rfl, by decide +kernel, rfl, by decide +kernel, by decide +kernel⟩
def spAnyBad (K : PySem.W.Frag) : Sp := fun vs H Q _ => ∃ (p : Int) (a : Addr) (ns : List Int), vs = [.int p, .ref a] ∧ SqL K H a (ns.map V.int) ∧ ∀ b : Bool, (b = true ↔ ¬ ∀ x ∈ ns, 0 ≤ x ∧ x < p) → Q (.bl b) H
theorem ok_L_any_bad {n : Nat} {f : Addr} {fd : FuncData} (F : Fun K "_law_any_bad" "_law_any_bad" s_L_any_bad f fd) (T : Txt K mg) : FnOk P w K mg base CX0 (n + 1) f fd ["_law_prime", "_law_numbers"] (spAnyBad K) := by
  refine F.ok sc_L_any_bad (fun vs H Q E h => ?_) (fun cdv A outer s H vs Q E hr h => ?_)
  · obtain ⟨p, a, ns, rfl, _⟩ := h
    rfl
  obtain ⟨p, a, ns, rfl, hS, q⟩ := h
  refine ⟨_, (pss_cons (ps_for PassesOwn.never rfl (pi_list (pv 1)) (pg_name (i := 2) sc_L_any_bad.nd rfl (Or.inl rfl)) (pss_one (ps_if (PW.pt (pw_or (pt_cmpR op_lt (pv 2) pe_int (nomark _)) (pw_or1 (pt_cmpR op_ge (pv 2) (pv 0) (nomark _))))) (pss_one (ps_ret pe_bl)) pss_nil)))
    (pss_one (ps_ret pe_bl))), ?_⟩
  refine ⟨_, rfl, a, rfl, ⟨_, hS⟩, for_list (xs := ns.map V.int) (fun i σ H' => H' = H ∧ (∀ j v, j < i → ns[j]? = some v → 0 ≤ v ∧ v < p) ∧ ∃ x, σ = [some (.int p), some (.ref a), x]) ⟨rfl, (fun j v hj => absurd hj (Nat.not_lt_zero j)), _, rfl⟩ (fun i σ H' _ h => h.1 ▸ hS) ?_ ?_⟩
  · rintro i x σ H' hx ⟨rfl, hb, x0, rfl⟩
    obtain ⟨v, rfl, hv⟩ := int_at hx
    have hm := List.mem_of_getElem? hv
    refine ⟨_, rfl, _, _, rfl, rfl, _, rfl, ?_⟩
    refine ite2 (fun d => ?_) (fun d => ?_)
    · have d' : v < 0 := of_decide_eq_true d
      exact iteT (q true ⟨fun _ z => by have := (z v hm).1; omega, fun _ => rfl⟩)
    · have d' : ¬ v < 0 := of_decide_eq_false (Bool.eq_false_iff.mpr d)
      refine ⟨_, rfl, _, rfl, _, _, rfl, rfl, _, rfl, ?_⟩
      refine ite2 (fun g => ?_) (fun g => ?_)
      · have g' : p ≤ v := of_decide_eq_true g
        exact q true ⟨fun _ z => by have := (z v hm).2; omega, fun _ => rfl⟩
      · have g' : ¬ p ≤ v := of_decide_eq_false (Bool.eq_false_iff.mpr g)
        refine ⟨rfl, fun j u hj hu => ?_, _, rfl⟩
        rcases Nat.lt_succ_iff_lt_or_eq.mp hj with hj | rfl
        · exact hb j u hj hu
        · rw [hv] at hu
          cases hu
          omega
  rintro σ H' ⟨rfl, hb, x, rfl⟩
  refine q false ⟨fun z => Bool.noConfusion z, fun z => absurd (fun x hx => ?_) z⟩
  obtain ⟨j, hj⟩ := List.mem_iff_getElem?.mp hx
  exact hb j x (by rw [List.length_map]; exact (List.getElem?_eq_some_iff.mp hj).1) hj
theorem Says.drop {c : Cls8} {a : Wd} {H : Hp} {Q : VK} {E : XK} (h : Says c a H Q E) : Says c a H (fun _ H' => Q .non H') E := fun H' s => ⟨fun e _ => (h H' s).1 e _, (h H' s).2⟩
theorem Says.as {c : Cls8} {a b : Wd} {H : Hp} {Q : VK} {E : XK} (h : Says c a H Q E) (e : a = b) : Says c b H Q E := e ▸ h
theorem Says.later {c : Cls8} {a : Wd} {H H1 : Hp} {Q : VK} {E : XK} (h : Says c a H Q E) (hs : Same H H1) : Says c a H1 Q E := fun H' s => h H' (hs.trans s)
abbrev s_L_two_way : Stmt := top 61
theorem sc_L_two_way : FnScope ["_law_which", "_law_prime", "_law_one", "_law_two"] ["_law_which", "_law_prime", "_law_one", "_law_two"] (defScope s_L_two_way) := ⟨rfl, rfl, rfl, by decide +kernel, rfl, by decide +kernel, by decide +kernel⟩
noncomputable def wTwoW (k p : Int) (ns ms : List Int) : Wd := if k = 3 then wSplit p ns ms else wRows p ns ms
def spTwoWay (c : Cls8) : Sp := fun vs H Q E => ∃ (k p : Int) (a b : Addr) (ns ms : List Int), vs = [.int k, .int p, .ref a, .ref b] ∧ H a = some (.lst (ns.map V.int)) ∧ H b = some (.lst (ms.map V.int)) ∧ ns.length ≤ 50 ∧ ms.length ≤ 50 ∧ Says c (wTwoW k p ns ms) H Q E
theorem okE_L_two_way {n : Nat} {f f1 f2 f3 f4 f5 f6 : Addr} {fd d1 d2 d3 d4 d5 d6 : FuncData} {c : Cls8} (F : Fun K "_law_two_way" "_law_two_way" s_L_two_way f fd) (T : Txt K mg)
    (D_added : Df K mg "added" f1 d1 ["prime", "one", "two"]) (GC_added : FnOk P w K mg base (CXE P w) n f1 d1 ["prime", "one", "two"] (spTwo c))
    (D_lessened : Df K mg "lessened" f2 d2 ["prime", "one", "two"]) (GC_lessened : FnOk P w K mg base (CXE P w) n f2 d2 ["prime", "one", "two"] (spTwo c))
    (D_multiplied : Df K mg "multiplied" f3 d3 ["prime", "one", "two"]) (GC_multiplied : FnOk P w K mg base (CXE P w) n f3 d3 ["prime", "one", "two"] (spTwo c))
    (D_split : Df K mg "split" f4 d4 ["prime", "one", "two"]) (GC_split : FnOk P w K mg base (CXE P w) n f4 d4 ["prime", "one", "two"] (spSplitE c))
    (D_common : Df K mg "common" f5 d5 ["prime", "one", "two"]) (GC_common : FnOk P w K mg base (CXE P w) n f5 d5 ["prime", "one", "two"] (spTwo c))
    (D_divides : Df K mg "divides" f6 d6 ["prime", "one", "two"]) (GC_divides : FnOk P w K mg base (CXE P w) n f6 d6 ["prime", "one", "two"] (spTwo c)) :
    FnOk P w K mg base (CXE P w) (n + 1) f fd ["_law_which", "_law_prime", "_law_one", "_law_two"] (spTwoWay c) := by
  refine F.okE sc_L_two_way (fun vs H Q E h => ?_) (fun cdv A outer s H vs Q E hr h => ?_)
  · obtain ⟨k, p, a, b, ns, ms, rfl, _⟩ := h
    rfl
  obtain ⟨k, p, a, b, ns, ms, rfl, ha, hb, la, lb, q⟩ := h
  have q0 : ¬ k = 3 → Says c (wRows p ns ms) H (fun _ H' => Q .non H') E := fun h => q.drop.as (if_neg h)
  refine ⟨_, (pss_one (ps_if (pt_cmpR op_eqI (pv 0) pe_int (nomark _)) (pss_one (ps_expr (pcallE D_added GC_added hr (pa_cons (pv 1) (pa_cons (pv 2) (pa_cons (pv 3) pa_nil)))))) (pss_one (ps_if (pt_cmpR op_eqI (pv 0) pe_int (nomark _)) (pss_one (ps_expr (pcallE D_lessened GC_lessened hr (pa_cons (pv 1) (pa_cons (pv 2) (pa_cons (pv 3) pa_nil)))))) (pss_one (ps_if (pt_cmpR op_eqI (pv 0) pe_int (nomark _)) (pss_one (ps_expr (pcallE D_multiplied GC_multiplied hr (pa_cons (pv 1) (pa_cons (pv 2) (pa_cons (pv 3) pa_nil)))))) (pss_one (ps_if (pt_cmpR op_eqI (pv 0) pe_int (nomark _)) (pss_one (ps_expr (pcallE D_split GC_split hr (pa_cons (pv 1) (pa_cons (pv 2) (pa_cons (pv 3) pa_nil)))))) (pss_one (ps_if (pt_cmpR op_eqI (pv 0) pe_int (nomark _)) (pss_one (ps_expr (pcallE D_common GC_common hr (pa_cons (pv 1) (pa_cons (pv 2) (pa_cons (pv 3) pa_nil)))))) (pss_one (ps_expr (pcallE D_divides GC_divides hr (pa_cons (pv 1) (pa_cons (pv 2) (pa_cons (pv 3) pa_nil)))))))))))))))), ?_⟩
  refine ⟨_, rfl, _, _, rfl, rfl, _, rfl, ?_⟩
  refine ite2 (fun d => ?_) (fun d => ?_)
  · have d' : k = 0 := of_decide_eq_true d
    exact ⟨_, rfl, _, rfl, _, rfl, p, a, b, ns, ms, rfl, ha, hb, la, lb, q0 (by omega)⟩
  refine ⟨_, rfl, _, _, rfl, rfl, _, rfl, ?_⟩
  refine ite2 (fun d => ?_) (fun d => ?_)
  · have d' : k = 1 := of_decide_eq_true d
    exact ⟨_, rfl, _, rfl, _, rfl, p, a, b, ns, ms, rfl, ha, hb, la, lb, q0 (by omega)⟩
  refine ⟨_, rfl, _, _, rfl, rfl, _, rfl, ?_⟩
  refine ite2 (fun d => ?_) (fun d => ?_)
  · have d' : k = 2 := of_decide_eq_true d
    exact ⟨_, rfl, _, rfl, _, rfl, p, a, b, ns, ms, rfl, ha, hb, la, lb, q0 (by omega)⟩
  refine ⟨_, rfl, _, _, rfl, rfl, _, rfl, ?_⟩
  refine ite2 (fun d => ?_) (fun d => ?_)
  · have d' : k = 3 := of_decide_eq_true d
    exact ⟨_, rfl, _, rfl, _, rfl, p, a, b, ns, ms, rfl, ha, hb, la, lb, q.drop.as (if_pos d')⟩
  have n3 : ¬ k = 3 := of_decide_eq_false (Bool.eq_false_iff.mpr d)
  refine ⟨_, rfl, _, _, rfl, rfl, _, rfl, ?_⟩
  refine ite2 (fun d => ?_) (fun d => ?_)
  · exact ⟨_, rfl, _, rfl, _, rfl, p, a, b, ns, ms, rfl, ha, hb, la, lb, q0 n3⟩
  · exact ⟨_, rfl, _, rfl, _, rfl, p, a, b, ns, ms, rfl, ha, hb, la, lb, q0 n3⟩
abbrev s_L_other_way : Stmt := top 62
theorem sc_L_other_way : FnScope ["_law_which", "_law_prime", "_law_one", "_law_two", "_law_points", "_law_numbers"] ["_law_which", "_law_prime", "_law_one", "_law_two", "_law_points", "_law_numbers"] (defScope s_L_other_way) := ⟨rfl, rfl, rfl, by decide +kernel, rfl, by decide +kernel, by decide +kernel⟩
noncomputable def wOther (k p : Int) (ns ms : List Int) (pts : List (Int × Int)) (x y cn : Int) : Wd := if k = 6 then wWorth p ms x else if k = 7 then wRoots p ns else if k = 8 then wInv p x else if k = 9 then wThru p 0 pts else if k = 10 then wThru p 1 pts else if k = 11 then wRowFor p pts 2 x else if k = 12 then wThru p 1 pts else wShares p x [y] cn
structure Six (H : Hp) (a b d e : Addr) (ns ms : List Int) (ts : List Addr) (pts : List (Int × Int)) (x y : Int) (cn : Nat) : Prop where
  ha : H a = some (.lst (ns.map V.int))
  hb : H b = some (.lst (ms.map V.int))
  hd : H d = some (.lst (ts.map V.ref))
  hP : Pts H ts pts
  he : H e = some (.lst (([x, y, (cn : Int)] : List Int).map V.int))
  la : ns.length ≤ 50
  lb : ms.length ≤ 50
  ld : pts.length ≤ 50
  lc : cn ≤ 200
theorem Six.same {H H' : Hp} {a b d e : Addr} {ns ms : List Int} {ts : List Addr} {pts : List (Int × Int)} {x y : Int} {cn : Nat} (h : Six H a b d e ns ms ts pts x y cn) (s : Same H H') : Six H' a b d e ns ms ts pts x y cn := ⟨s _ _ h.ha, s _ _ h.hb, s _ _ h.hd, h.hP.same s, s _ _ h.he, h.la, h.lb, h.ld, h.lc⟩
def spOther (c : Cls8) : Sp := fun vs H Q E => ∃ (k p : Int) (a b d e : Addr) (ns ms : List Int) (ts : List Addr) (pts : List (Int × Int)) (x y : Int) (cn : Nat), vs = [.int k, .int p, .ref a, .ref b, .ref d, .ref e] ∧ Six H a b d e ns ms ts pts x y cn ∧ Says c (wOther k p ns ms pts x y cn) H Q E
theorem okE_L_other_way {n : Nat} {f f1 f2 f3 f4 f5 f6 f7 f8 : Addr} {fd d1 d2 d3 d4 d5 d6 d7 d8 : FuncData} {c : Cls8} (F : Fun K "_law_other_way" "_law_other_way" s_L_other_way f fd) (T : Txt K mg)
    (D_worth : Df K mg "worth" f1 d1 ["prime", "row", "spot"]) (GC_worth : FnOk P w K mg base (CXE P w) n f1 d1 ["prime", "row", "spot"] (spWorthE c))
    (D_roots : Df K mg "roots" f2 d2 ["prime", "row"]) (GC_roots : FnOk P w K mg base (CXE P w) n f2 d2 ["prime", "row"] (spRootsE c))
    (D_inverse : Df K mg "inverse" f3 d3 ["prime", "number"]) (GC_inverse : FnOk P w K mg base (CXE P w) n f3 d3 ["prime", "number"] (spInvE c))
    (D_through : Df K mg "through" f4 d4 ["prime", "points"]) (GC_through : FnOk P w K mg base (CXE P w) n f4 d4 ["prime", "points"] (spThruE c 0 []))
    (D_secret_by : Df K mg "secret_by" f5 d5 ["prime", "shares"]) (GC_secret_by : FnOk P w K mg base (CXE P w) n f5 d5 ["prime", "shares"] (spThruE c 1 []))
    (D_row_for : Df K mg "row_for" f6 d6 ["prime", "shares", "needed", "secret"]) (GC_row_for : FnOk P w K mg base (CXE P w) n f6 d6 ["prime", "shares", "needed", "secret"] (spRowForC c))
    (D_first_off : Df K mg "first_off" f7 d7 ["prime", "shares", "needed"]) (GC_first_off : FnOk P w K mg base (CXE P w) n f7 d7 ["prime", "shares", "needed"] (spThruE c 1 [.int 1]))
    (D_shares_of : Df K mg "shares_of" f8 d8 ["prime", "secret", "others", "count"]) (GC_shares_of : FnOk P w K mg base (CXE P w) n f8 d8 ["prime", "secret", "others", "count"] (spSharesC c)) :
    FnOk P w K mg base (CXE P w) (n + 1) f fd ["_law_which", "_law_prime", "_law_one", "_law_two", "_law_points", "_law_numbers"] (spOther c) := by
  refine F.okE sc_L_other_way (fun vs H Q E h => ?_) (fun cdv A outer s H vs Q E hr h => ?_)
  · obtain ⟨k, p, a, b, d, e, ns, ms, ts, pts, x, y, cn, rfl, _⟩ := h
    rfl
  obtain ⟨k, p, a, b, d, e, ns, ms, ts, pts, x, y, cn, rfl, S, q⟩ := h
  have q := q.drop
  have at0 : atI (([x, y, (cn : Int)] : List Int).map V.int) 0 = some (.int x) := rfl
  have at1 : atI (([x, y, (cn : Int)] : List Int).map V.int) 1 = some (.int y) := rfl
  have at2 : atI (([x, y, (cn : Int)] : List Int).map V.int) 2 = some (.int cn) := rfl
  unfold wOther at q
  refine ⟨_, (pss_one (ps_if (pt_cmpR op_eqI (pv 0) pe_int (nomark _)) (pss_one (ps_expr (pcallE D_worth GC_worth hr (pa_cons (pv 1) (pa_cons (pv 3) (pa_cons (pe_ix ix_list (pv 5) pe_int (fun _ _ => rfl)) pa_nil)))))) (pss_one (ps_if (pt_cmpR op_eqI (pv 0) pe_int (nomark _)) (pss_one (ps_expr (pcallE D_roots GC_roots hr (pa_cons (pv 1) (pa_cons (pv 2) pa_nil))))) (pss_one (ps_if (pt_cmpR op_eqI (pv 0) pe_int (nomark _)) (pss_one (ps_expr (pcallE D_inverse GC_inverse hr (pa_cons (pv 1) (pa_cons (pe_ix ix_list (pv 5) pe_int (fun _ _ => rfl)) pa_nil))))) (pss_one (ps_if (pt_cmpR op_eqI (pv 0) pe_int (nomark _)) (pss_one (ps_expr (pcallE D_through GC_through hr (pa_cons (pv 1) (pa_cons (pv 4) pa_nil))))) (pss_one (ps_if (pt_cmpR op_eqI (pv 0) pe_int (nomark _)) (pss_one (ps_expr (pcallE D_secret_by GC_secret_by hr (pa_cons (pv 1) (pa_cons (pv 4) pa_nil))))) (pss_one (ps_if (pt_cmpR op_eqI (pv 0) pe_int (nomark _)) (pss_one (ps_expr (pcallE D_row_for GC_row_for hr (pa_cons (pv 1) (pa_cons (pv 4) (pa_cons pe_int (pa_cons (pe_ix ix_list (pv 5) pe_int (fun _ _ => rfl)) pa_nil))))))) (pss_one (ps_if (pt_cmpR op_eqI (pv 0) pe_int (nomark _)) (pss_one (ps_expr (pcallE D_first_off GC_first_off hr (pa_cons (pv 1) (pa_cons (pv 4) (pa_cons pe_int pa_nil)))))) (pss_one (ps_expr (pcallE D_shares_of GC_shares_of hr (pa_cons (pv 1) (pa_cons (pe_ix ix_list (pv 5) pe_int (fun _ _ => rfl)) (pa_cons (pe_lst (pa_cons (pe_ix ix_list (pv 5) pe_int (fun _ _ => rfl)) pa_nil)) (pa_cons (pe_ix ix_list (pv 5) pe_int (fun _ _ => rfl)) pa_nil))))))))))))))))))))), ?_⟩
  refine ⟨_, rfl, _, _, rfl, rfl, _, rfl, ?_⟩
  refine ite2 (fun g => ?_) (fun g => ?_)
  · rw [if_pos (of_decide_eq_true g)] at q
    exact ⟨_, rfl, _, rfl, _, rfl, e, _, _, _, rfl, rfl, SqL.of S.he, at0, p, b, ms, x, rfl, S.hb, q⟩
  rw [if_neg (of_decide_eq_false (Bool.eq_false_iff.mpr g))] at q
  refine ⟨_, rfl, _, _, rfl, rfl, _, rfl, ?_⟩
  refine ite2 (fun g => ?_) (fun g => ?_)
  · rw [if_pos (of_decide_eq_true g)] at q
    exact ⟨_, rfl, _, rfl, p, a, ns, rfl, S.ha, S.la, q⟩
  rw [if_neg (of_decide_eq_false (Bool.eq_false_iff.mpr g))] at q
  refine ⟨_, rfl, _, _, rfl, rfl, _, rfl, ?_⟩
  refine ite2 (fun g => ?_) (fun g => ?_)
  · rw [if_pos (of_decide_eq_true g)] at q
    exact ⟨_, rfl, _, rfl, e, _, _, _, rfl, rfl, SqL.of S.he, at0, p, x, rfl, q⟩
  rw [if_neg (of_decide_eq_false (Bool.eq_false_iff.mpr g))] at q
  refine ⟨_, rfl, _, _, rfl, rfl, _, rfl, ?_⟩
  refine ite2 (fun g => ?_) (fun g => ?_)
  · rw [if_pos (of_decide_eq_true g)] at q
    exact ⟨_, rfl, _, rfl, p, d, ts, pts, rfl, S.hd, S.hP, S.ld, q⟩
  rw [if_neg (of_decide_eq_false (Bool.eq_false_iff.mpr g))] at q
  refine ⟨_, rfl, _, _, rfl, rfl, _, rfl, ?_⟩
  refine ite2 (fun g => ?_) (fun g => ?_)
  · rw [if_pos (of_decide_eq_true g)] at q
    exact ⟨_, rfl, _, rfl, p, d, ts, pts, rfl, S.hd, S.hP, S.ld, q⟩
  rw [if_neg (of_decide_eq_false (Bool.eq_false_iff.mpr g))] at q
  refine ⟨_, rfl, _, _, rfl, rfl, _, rfl, ?_⟩
  refine ite2 (fun g => ?_) (fun g => ?_)
  · rw [if_pos (of_decide_eq_true g)] at q
    exact ⟨_, rfl, _, rfl, _, rfl, e, _, _, _, rfl, rfl, SqL.of S.he, at0, p, 2, x, d, ts, pts, rfl, S.hd, S.hP, S.ld, q⟩
  rw [if_neg (of_decide_eq_false (Bool.eq_false_iff.mpr g))] at q
  refine ⟨_, rfl, _, _, rfl, rfl, _, rfl, ?_⟩
  refine ite2 (fun g => ?_) (fun g => ?_)
  · rw [if_pos (of_decide_eq_true g)] at q
    exact ⟨_, rfl, _, rfl, p, d, ts, pts, rfl, S.hd, S.hP, S.ld, q⟩
  rw [if_neg (of_decide_eq_false (Bool.eq_false_iff.mpr g))] at q
  refine ⟨_, rfl, _, rfl, e, _, _, _, rfl, rfl, SqL.of S.he, at0, _, rfl, e, _, _, _, rfl, rfl, SqL.of S.he, at1, (by show 1 ≤ sizeLine; decide), fun l hl => ?_⟩
  have s1 := same_new hl (.lst (([y] : List Int).map V.int))
  exact ⟨_, rfl, e, _, _, _, rfl, rfl, SqL.of (s1 _ _ S.he), at2, p, x, cn, l, [y], rfl, upd_same, (by simp), S.lc, q.later s1⟩
noncomputable def wAll (k p : Int) (ns ms : List Int) (pts : List (Int × Int)) (x y cn : Int) : Wd := if k < 6 then wTwoW k p ns ms else wOther k p ns ms pts x y cn
abbrev s_L_said : Stmt := top 63
theorem sc_L_said : FnScope ["_law_which", "_law_prime", "_law_one", "_law_two", "_law_points", "_law_numbers", "_law_word"] ["_law_which", "_law_prime", "_law_one", "_law_two", "_law_points", "_law_numbers"] (defScope s_L_said) := ⟨rfl, rfl, rfl, by decide +kernel, rfl, by decide +kernel, by decide +kernel⟩
def spSaid : Sp := fun vs H Q _ => ∃ (k p : Int) (a b d e : Addr) (ns ms : List Int) (ts : List Addr) (pts : List (Int × Int)) (x y : Int) (cn : Nat), vs = [.int k, .int p, .ref a, .ref b, .ref d, .ref e] ∧ Six H a b d e ns ms ts pts x y cn ∧ ∀ H', Same H H' → Q (.str (wAll k p ns ms pts x y cn).str) H'
def handsOf (st : Stmt) (i : Nat) : List ExceptHandler := match (defBody st)[i]? with
  | some (.Try _ hs _ _ _) => hs
  | _ => []
theorem len7 {σ : St} (h : σ.length = 7) : ∃ x0 x1 x2 x3 x4 x5 x6, σ = [x0, x1, x2, x3, x4, x5, x6] := by
  match σ, h with
  | [x0, x1, x2, x3, x4, x5, x6], _ => exact ⟨x0, x1, x2, x3, x4, x5, x6, rfl⟩
theorem len8 {σ : St} (h : σ.length = 8) : ∃ x0 x1 x2 x3 x4 x5 x6 x7, σ = [x0, x1, x2, x3, x4, x5, x6, x7] := by
  match σ, h with
  | [x0, x1, x2, x3, x4, x5, x6, x7], _ => exact ⟨x0, x1, x2, x3, x4, x5, x6, x7, rfl⟩
theorem ok_L_said {n : Nat} {f f1 f2 cl : Addr} {fd d1 d2 : FuncData} {c : Cls8} (F : Fun K "_law_said" "_law_said" s_L_said f fd) (T : Txt K mg) (T_NotPrime : mg "NotPrime" = some (.ref c.N)) (T_BadRow : mg "BadRow" = some (.ref c.R)) (T_BadSpot : mg "BadSpot" = some (.ref c.B))
    (T_NoDivisor : mg "NoDivisor" = some (.ref c.D)) (T_SameSpot : mg "SameSpot" = some (.ref c.S)) (T_TooMany : mg "TooMany" = some (.ref c.M)) (T_Enough : mg "Enough" = some (.ref c.E)) (T_AllRoots : mg "AllRoots" = some (.ref c.A)) (X_tab : excTab K c cl = true)
    (D_L_two_way : Df K mg "_law_two_way" f1 d1 ["_law_which", "_law_prime", "_law_one", "_law_two"]) (GE_L_two_way : FnOk P w K mg base (CXE P w) n f1 d1 ["_law_which", "_law_prime", "_law_one", "_law_two"] (spTwoWay c))
    (D_L_other_way : Df K mg "_law_other_way" f2 d2 ["_law_which", "_law_prime", "_law_one", "_law_two", "_law_points", "_law_numbers"]) (GE_L_other_way : FnOk P w K mg base (CXE P w) n f2 d2 ["_law_which", "_law_prime", "_law_one", "_law_two", "_law_points", "_law_numbers"] (spOther c)) :
    FnOk P w K mg base CX0 (n + 1) f fd ["_law_which", "_law_prime", "_law_one", "_law_two", "_law_points", "_law_numbers"] spSaid := by
  refine F.ok sc_L_said (fun vs H Q E h => ?_) (fun cdv A outer s H vs Q E hr h => ?_)
  · obtain ⟨k, p, a, b, d, e, ns, ms, ts, pts, x, y, cn, rfl, _⟩ := h
    rfl
  obtain ⟨k, p, a, b, d, e, ns, ms, ts, pts, x, y, cn, rfl, S, q⟩ := h
  have B := tab_of X_tab
  have em := fun (w v : Wd) (hw : w ≠ .done) (hv : v ≠ .done) (h : w ≠ v) => (B.exm w v hw hv).trans (by rw [decide_eq_false h])
  have eh := fun (w : Wd) (hw : w ≠ .done) => (B.exm w w hw hw).trans (by rw [decide_eq_true rfl])
  refine ⟨_, (pss_cons (ps_set (i := 6) sc_L_said.nd rfl (Or.inl rfl) pe_str)
    (pss_cons (ps_tryB rfl rfl fun pn xe E hp => (pss_one (ps_if (pt_cmpR op_lt (pv 0) pe_int (nomark _)) (pss_one (ps_expr (pcallP D_L_two_way GE_L_two_way hr hp (pa_cons (pv 0) (pa_cons (pv 1) (pa_cons (pv 2) (pa_cons (pv 3) pa_nil))))))) (pss_one (ps_expr (pcallP D_L_other_way GE_L_other_way hr hp (pa_cons (pv 0) (pa_cons (pv 1) (pa_cons (pv 2) (pa_cons (pv 3) (pa_cons (pv 4) (pa_cons (pv 5) pa_nil))))))))))))
    (pss_one (ps_ret (pv 6))))), ?_⟩
  have fin : ∀ (wd : Wd) (H' : Hp), wd ≠ .done → Q (.str wd.str) H' → ∃ C th, Value.ref (c.at wd) = .ref C ∧ PHE (cxOf CX0 P w K mg base ["_law_which", "_law_prime", "_law_one", "_law_two", "_law_points", "_law_numbers", "_law_word"] "_law_said" (defScope s_L_said) f cdv A outer s H E).nox C (handsOf s_L_said 1) th ∧ ∀ σ' : St, σ'.length = 7 → th { nx := fun σ H => tRet (tVar 6) { nx := fun _ H' => Q .non H', rt := Q } σ H, rt := Q } σ' H' := ?fin
  case fin =>
    intro wd H' hne hq
    cases wd with
    | done => exact absurd rfl hne
    | prime =>
      refine ⟨c.N, _, rfl, PH.e (ph_hit T_NotPrime (eh .prime (by decide)) rfl (fun v => (pss_one (ps_set (i := 6) sc_L_said.nd rfl (Or.inl rfl) pe_str)))), fun σ' h => ?_⟩
      obtain ⟨x0, x1, x2, x3, x4, x5, x6, rfl⟩ := len7 h
      exact ⟨_, rfl, hq⟩
    | row =>
      refine ⟨c.R, _, rfl, PH.e (ph_miss T_NotPrime (em .row .prime (by decide) (by decide) (by decide)) (ph_hit T_BadRow (eh .row (by decide)) rfl (fun v => (pss_one (ps_set (i := 6) sc_L_said.nd rfl (Or.inl rfl) pe_str))))), fun σ' h => ?_⟩
      obtain ⟨x0, x1, x2, x3, x4, x5, x6, rfl⟩ := len7 h
      exact ⟨_, rfl, hq⟩
    | spot =>
      refine ⟨c.B, _, rfl, PH.e (ph_miss T_NotPrime (em .spot .prime (by decide) (by decide) (by decide)) (ph_miss T_BadRow (em .spot .row (by decide) (by decide) (by decide)) (ph_hit T_BadSpot (eh .spot (by decide)) rfl (fun v => (pss_one (ps_set (i := 6) sc_L_said.nd rfl (Or.inl rfl) pe_str)))))), fun σ' h => ?_⟩
      obtain ⟨x0, x1, x2, x3, x4, x5, x6, rfl⟩ := len7 h
      exact ⟨_, rfl, hq⟩
    | same =>
      refine ⟨c.S, _, rfl, PH.e (ph_miss T_NotPrime (em .same .prime (by decide) (by decide) (by decide)) (ph_miss T_BadRow (em .same .row (by decide) (by decide) (by decide)) (ph_miss T_BadSpot (em .same .spot (by decide) (by decide) (by decide)) (ph_hit T_SameSpot (eh .same (by decide)) rfl (fun v => (pss_one (ps_set (i := 6) sc_L_said.nd rfl (Or.inl rfl) pe_str))))))), fun σ' h => ?_⟩
      obtain ⟨x0, x1, x2, x3, x4, x5, x6, rfl⟩ := len7 h
      exact ⟨_, rfl, hq⟩
    | none =>
      refine ⟨c.D, _, rfl, PH.e (ph_miss T_NotPrime (em .none .prime (by decide) (by decide) (by decide)) (ph_miss T_BadRow (em .none .row (by decide) (by decide) (by decide)) (ph_miss T_BadSpot (em .none .spot (by decide) (by decide) (by decide)) (ph_miss T_SameSpot (em .none .same (by decide) (by decide) (by decide)) (ph_hit T_NoDivisor (eh .none (by decide)) rfl (fun v => (pss_one (ps_set (i := 6) sc_L_said.nd rfl (Or.inl rfl) pe_str)))))))), fun σ' h => ?_⟩
      obtain ⟨x0, x1, x2, x3, x4, x5, x6, rfl⟩ := len7 h
      exact ⟨_, rfl, hq⟩
    | enough =>
      refine ⟨c.E, _, rfl, PH.e (ph_miss T_NotPrime (em .enough .prime (by decide) (by decide) (by decide)) (ph_miss T_BadRow (em .enough .row (by decide) (by decide) (by decide)) (ph_miss T_BadSpot (em .enough .spot (by decide) (by decide) (by decide)) (ph_miss T_SameSpot (em .enough .same (by decide) (by decide) (by decide)) (ph_miss T_NoDivisor (em .enough .none (by decide) (by decide) (by decide)) (ph_hit T_Enough (eh .enough (by decide)) rfl (fun v => (pss_one (ps_set (i := 6) sc_L_said.nd rfl (Or.inl rfl) pe_str))))))))), fun σ' h => ?_⟩
      obtain ⟨x0, x1, x2, x3, x4, x5, x6, rfl⟩ := len7 h
      exact ⟨_, rfl, hq⟩
    | all =>
      refine ⟨c.A, _, rfl, PH.e (ph_miss T_NotPrime (em .all .prime (by decide) (by decide) (by decide)) (ph_miss T_BadRow (em .all .row (by decide) (by decide) (by decide)) (ph_miss T_BadSpot (em .all .spot (by decide) (by decide) (by decide)) (ph_miss T_SameSpot (em .all .same (by decide) (by decide) (by decide)) (ph_miss T_NoDivisor (em .all .none (by decide) (by decide) (by decide)) (ph_miss T_Enough (em .all .enough (by decide) (by decide) (by decide)) (ph_hit T_AllRoots (eh .all (by decide)) rfl (fun v => (pss_one (ps_set (i := 6) sc_L_said.nd rfl (Or.inl rfl) pe_str)))))))))), fun σ' h => ?_⟩
      obtain ⟨x0, x1, x2, x3, x4, x5, x6, rfl⟩ := len7 h
      exact ⟨_, rfl, hq⟩
    | many =>
      refine ⟨c.M, _, rfl, PH.e (ph_miss T_NotPrime (em .many .prime (by decide) (by decide) (by decide)) (ph_miss T_BadRow (em .many .row (by decide) (by decide) (by decide)) (ph_miss T_BadSpot (em .many .spot (by decide) (by decide) (by decide)) (ph_miss T_SameSpot (em .many .same (by decide) (by decide) (by decide)) (ph_miss T_NoDivisor (em .many .none (by decide) (by decide) (by decide)) (ph_miss T_Enough (em .many .enough (by decide) (by decide) (by decide)) (ph_miss T_AllRoots (em .many .all (by decide) (by decide) (by decide)) (ph_hit T_TooMany (eh .many (by decide)) rfl (fun v => (pss_one (ps_set (i := 6) sc_L_said.nd rfl (Or.inl rfl) pe_str))))))))))), fun σ' h => ?_⟩
      obtain ⟨x0, x1, x2, x3, x4, x5, x6, rfl⟩ := len7 h
      exact ⟨_, rfl, hq⟩
  refine ⟨_, rfl, _, _, rfl, rfl, _, rfl, ?_⟩
  refine ite2 (fun g => ?_) (fun g => ?_)
  · have g' : k < 6 := of_decide_eq_true g
    have e1 : wAll k p ns ms pts x y cn = wTwoW k p ns ms := if_pos g'
    rw [e1] at q
    exact ⟨_, rfl, _, rfl, _, rfl, _, rfl, k, p, a, b, ns, ms, rfl, S.ha, S.hb, S.la, S.lb, fun H' hs => ⟨fun z v => ⟨_, rfl, by have := q H' hs; rw [z] at this; exact this⟩, fun z => fin _ H' z (q H' hs)⟩⟩
  · have g' : ¬ k < 6 := of_decide_eq_false (Bool.eq_false_iff.mpr g)
    have e1 : wAll k p ns ms pts x y cn = wOther k p ns ms pts x y cn := if_neg g'
    rw [e1] at q
    exact ⟨_, rfl, _, rfl, _, rfl, _, rfl, _, rfl, _, rfl, k, p, a, b, d, e, ns, ms, ts, pts, x, y, cn, rfl, S, fun H' hs => ⟨fun z v => ⟨_, rfl, by have := q H' hs; rw [z] at this; exact this⟩, fun z => fin _ H' z (q H' hs)⟩⟩
abbrev s_L_refuses : Stmt := top 69
theorem sc_L_refuses : FnScope ["_law_which", "_law_prime", "_law_one", "_law_two", "_law_points", "_law_numbers", "e", "_law_under"] ["_law_which", "_law_prime", "_law_one", "_law_two", "_law_points", "_law_numbers"] (defScope s_L_refuses) := ⟨rfl, rfl, rfl, by decide +kernel, rfl, by decide +kernel, by decide +kernel⟩
def spRefuses : Sp := fun vs H Q _ => ∃ (k p : Int) (a b d e : Addr) (ns ms : List Int) (ts : List Addr) (pts : List (Int × Int)) (x y : Int) (cn : Nat), vs = [.int k, .int p, .ref a, .ref b, .ref d, .ref e] ∧ Six H a b d e ns ms ts pts x y cn ∧ ∀ H', Same H H' → Q (.bl (decide (wAll k p ns ms pts x y cn ≠ .done))) H'
theorem ok_L_refuses {n : Nat} {f f1 f2 cl : Addr} {fd d1 d2 : FuncData} {c : Cls8} (F : Fun K "_law_refuses" "_law_refuses" s_L_refuses f fd) (T : Txt K mg) (T_NotPrime : mg "NotPrime" = some (.ref c.N)) (T_BadRow : mg "BadRow" = some (.ref c.R)) (T_BadSpot : mg "BadSpot" = some (.ref c.B))
    (T_NoDivisor : mg "NoDivisor" = some (.ref c.D)) (T_SameSpot : mg "SameSpot" = some (.ref c.S)) (T_TooMany : mg "TooMany" = some (.ref c.M)) (T_Enough : mg "Enough" = some (.ref c.E)) (T_AllRoots : mg "AllRoots" = some (.ref c.A)) (T_ClothError : mg "ClothError" = some (.ref cl)) (X_tab : excTab K c cl = true)
    (D_L_two_way : Df K mg "_law_two_way" f1 d1 ["_law_which", "_law_prime", "_law_one", "_law_two"]) (GE_L_two_way : FnOk P w K mg base (CXE P w) n f1 d1 ["_law_which", "_law_prime", "_law_one", "_law_two"] (spTwoWay c))
    (D_L_other_way : Df K mg "_law_other_way" f2 d2 ["_law_which", "_law_prime", "_law_one", "_law_two", "_law_points", "_law_numbers"]) (GE_L_other_way : FnOk P w K mg base (CXE P w) n f2 d2 ["_law_which", "_law_prime", "_law_one", "_law_two", "_law_points", "_law_numbers"] (spOther c)) :
    FnOk P w K mg base CX0 (n + 1) f fd ["_law_which", "_law_prime", "_law_one", "_law_two", "_law_points", "_law_numbers"] spRefuses := by
  refine F.ok sc_L_refuses (fun vs H Q E h => ?_) (fun cdv A outer s H vs Q E hr h => ?_)
  · obtain ⟨k, p, a, b, d, e, ns, ms, ts, pts, x, y, cn, rfl, _⟩ := h
    rfl
  obtain ⟨k, p, a, b, d, e, ns, ms, ts, pts, x, y, cn, rfl, S, q⟩ := h
  have B := tab_of X_tab
  refine ⟨_, (pss_cons (ps_tryB rfl rfl fun pn xe E hp => (pss_one (ps_if (pt_cmpR op_lt (pv 0) pe_int (nomark _)) (pss_one (ps_expr (pcallP D_L_two_way GE_L_two_way hr hp (pa_cons (pv 0) (pa_cons (pv 1) (pa_cons (pv 2) (pa_cons (pv 3) pa_nil))))))) (pss_one (ps_expr (pcallP D_L_other_way GE_L_other_way hr hp (pa_cons (pv 0) (pa_cons (pv 1) (pa_cons (pv 2) (pa_cons (pv 3) (pa_cons (pv 4) (pa_cons (pv 5) pa_nil))))))))))))
    (pss_one (ps_ret pe_bl))), ?_⟩
  have fin : ∀ (wd : Wd) (H' : Hp), wd ≠ .done → (∀ H2, Same H' H2 → Q (.bl true) H2) → ∃ C th, Value.ref (c.at wd) = .ref C ∧ PHE (cxOf CX0 P w K mg base ["_law_which", "_law_prime", "_law_one", "_law_two", "_law_points", "_law_numbers", "e", "_law_under"] "_law_refuses" (defScope s_L_refuses) f cdv A outer s H E).nox C (handsOf s_L_refuses 0) th ∧ ∀ σ' : St, σ'.length = 8 → th { nx := fun σ H => tRet (tC (.bl false)) { nx := fun _ H' => Q .non H', rt := Q } σ H, rt := Q } σ' H' := ?fin
  case fin =>
    intro wd H' hne hq
    have Z := B.exk wd
    refine ⟨c.at wd, _, rfl, ph_as (i := 6) T_ClothError (B.clo wd) rfl rfl rfl sc_L_refuses.nd rfl rfl rfl (fun ea oe hc => (pss_cons (ps_set (i := 7) sc_L_refuses.nd rfl (Or.inl rfl) (pe_lst (pa_cons (pe_callB (call_isiE Z hc) rfl T.isinstance bt_isinstance (pa_cons (pv 6) (pa_cons (pe_glob (v := V.ref c.N) rfl T_NotPrime rfl) pa_nil))) (pa_cons (pe_callB (call_isiE Z hc) rfl T.isinstance bt_isinstance (pa_cons (pv 6) (pa_cons (pe_glob (v := V.ref c.R) rfl T_BadRow rfl) pa_nil))) (pa_cons (pe_callB (call_isiE Z hc) rfl T.isinstance bt_isinstance (pa_cons (pv 6) (pa_cons (pe_glob (v := V.ref c.B) rfl T_BadSpot rfl) pa_nil))) pa_nil)))))
    (pss_cons (ps_set (i := 7) sc_L_refuses.nd rfl (Or.inl rfl) (pe_op op_cat (pv 7) (pe_lst (pa_cons (pe_callB (call_isiE Z hc) rfl T.isinstance bt_isinstance (pa_cons (pv 6) (pa_cons (pe_glob (v := V.ref c.D) rfl T_NoDivisor rfl) pa_nil))) (pa_cons (pe_callB (call_isiE Z hc) rfl T.isinstance bt_isinstance (pa_cons (pv 6) (pa_cons (pe_glob (v := V.ref c.S) rfl T_SameSpot rfl) pa_nil))) (pa_cons (pe_callB (call_isiE Z hc) rfl T.isinstance bt_isinstance (pa_cons (pv 6) (pa_cons (pe_glob (v := V.ref c.M) rfl T_TooMany rfl) pa_nil))) pa_nil))))))
    (pss_cons (ps_set (i := 7) sc_L_refuses.nd rfl (Or.inl rfl) (pe_op op_cat (pv 7) (pe_lst (pa_cons (pe_callB (call_isiE Z hc) rfl T.isinstance bt_isinstance (pa_cons (pv 6) (pa_cons (pe_glob (v := V.ref c.E) rfl T_Enough rfl) pa_nil))) (pa_cons (pe_callB (call_isiE Z hc) rfl T.isinstance bt_isinstance (pa_cons (pv 6) (pa_cons (pe_glob (v := V.ref c.A) rfl T_AllRoots rfl) pa_nil))) pa_nil)))))
    (pss_one (ps_ret (pe_and (pe_callB (call_isiE Z hc) rfl T.isinstance bt_isinstance (pa_cons (pv 6) (pa_cons (pe_type T.ValueError bt_ValueError) pa_nil))) (pe_one (pe_cmpR op_eqI (show PE _ _ (tBM K "list" rCount _ _) from (pe_bm PySem.F.plainAttrs_list PySem.F.slot_list_count PySem.F.type_list_count mt_count (pv 7) (pa_cons pe_bl pa_nil))) pe_int (nomark _)))))))))), fun σ' h => ?_⟩
    obtain ⟨x0, x1, x2, x3, x4, x5, x6, x7, rfl⟩ := len8 h
    intro ea hea
    refine ⟨_, rfl, .ref c.N, .ref c.N, _, rfl, (fun u z => z), B.kit wd .prime hne (by decide), _, rfl, .ref c.R, .ref c.R, _, rfl, (fun u z => z), B.kit wd .row hne (by decide), _, rfl, .ref c.B, .ref c.B, _, rfl, (fun u z => z), B.kit wd .spot hne (by decide), (by show 3 ≤ sizeLine; decide), fun l1 hl1 => ?_⟩
    have s1 := same_new hl1 (.lst [V.bl (decide (wd = .prime)), V.bl (decide (wd = .row)), V.bl (decide (wd = .spot))])
    have e1 : upd H' l1 (.lst [V.bl (decide (wd = .prime)), V.bl (decide (wd = .row)), V.bl (decide (wd = .spot))]) l1 = some (.lst [V.bl (decide (wd = .prime)), V.bl (decide (wd = .row)), V.bl (decide (wd = .spot))]) := upd_same
    generalize upd H' l1 (.lst [V.bl (decide (wd = .prime)), V.bl (decide (wd = .row)), V.bl (decide (wd = .spot))]) = H1 at s1 e1 ⊢
    refine ⟨_, rfl, _, rfl, .ref c.D, .ref c.D, _, rfl, (fun u z => z), B.kit wd .none hne (by decide), _, rfl, .ref c.S, .ref c.S, _, rfl, (fun u z => z), B.kit wd .same hne (by decide), _, rfl, .ref c.M, .ref c.M, _, rfl, (fun u z => z), B.kit wd .many hne (by decide), (by show 3 ≤ sizeLine; decide), fun l2 hl2 => ?_⟩
    have s2 := same_new hl2 (.lst [V.bl (decide (wd = .none)), V.bl (decide (wd = .same)), V.bl (decide (wd = .many))])
    refine ⟨l1, l2, _, _, rfl, rfl, s2 _ _ e1, upd_same, (by show 6 ≤ sizeLine; decide), fun l3 hl3 => ?_⟩
    have s3 := same_new hl3 (.lst [V.bl (decide (wd = .prime)), V.bl (decide (wd = .row)), V.bl (decide (wd = .spot)), V.bl (decide (wd = .none)), V.bl (decide (wd = .same)), V.bl (decide (wd = .many))])
    have e3 : upd (upd H1 l2 (.lst [V.bl (decide (wd = .none)), V.bl (decide (wd = .same)), V.bl (decide (wd = .many))])) l3 (.lst ([V.bl (decide (wd = .prime)), V.bl (decide (wd = .row)), V.bl (decide (wd = .spot))] ++ [V.bl (decide (wd = .none)), V.bl (decide (wd = .same)), V.bl (decide (wd = .many))])) l3 = some (.lst [V.bl (decide (wd = .prime)), V.bl (decide (wd = .row)), V.bl (decide (wd = .spot)), V.bl (decide (wd = .none)), V.bl (decide (wd = .same)), V.bl (decide (wd = .many))]) := upd_same
    have s4 : Same H' (upd (upd H1 l2 (.lst [V.bl (decide (wd = .none)), V.bl (decide (wd = .same)), V.bl (decide (wd = .many))])) l3 (.lst ([V.bl (decide (wd = .prime)), V.bl (decide (wd = .row)), V.bl (decide (wd = .spot))] ++ [V.bl (decide (wd = .none)), V.bl (decide (wd = .same)), V.bl (decide (wd = .many))]))) := s1.trans (s2.trans s3)
    generalize upd (upd H1 l2 (.lst [V.bl (decide (wd = .none)), V.bl (decide (wd = .same)), V.bl (decide (wd = .many))])) l3 (.lst ([V.bl (decide (wd = .prime)), V.bl (decide (wd = .row)), V.bl (decide (wd = .spot))] ++ [V.bl (decide (wd = .none)), V.bl (decide (wd = .same)), V.bl (decide (wd = .many))])) = H3 at e3 s4 ⊢
    refine ⟨_, rfl, _, rfl, .ref c.E, .ref c.E, _, rfl, (fun u z => z), B.kit wd .enough hne (by decide), _, rfl, .ref c.A, .ref c.A, _, rfl, (fun u z => z), B.kit wd .all hne (by decide), (by show 2 ≤ sizeLine; decide), fun l4 hl4 => ?_⟩
    have s5 := same_new hl4 (.lst [V.bl (decide (wd = .enough)), V.bl (decide (wd = .all))])
    refine ⟨l3, l4, _, _, rfl, rfl, s5 _ _ e3, upd_same, (by show 8 ≤ sizeLine; decide), fun l5 hl5 => ?_⟩
    have s6 := s4.trans (s5.trans (same_new hl5 (.lst ([V.bl (decide (wd = .prime)), V.bl (decide (wd = .row)), V.bl (decide (wd = .spot)), V.bl (decide (wd = .none)), V.bl (decide (wd = .same)), V.bl (decide (wd = .many))] ++ [V.bl (decide (wd = .enough)), V.bl (decide (wd = .all))]))))
    refine ⟨_, rfl, .ty "ValueError", .type "ValueError", true, rfl, (fun u z => z), B.val wd, true, rfl, iteT ?_⟩
    refine ⟨_, rfl, .inl ⟨rfl, _, SqL.of upd_same⟩, l5, [decide (wd = .prime), decide (wd = .row), decide (wd = .spot), decide (wd = .none), decide (wd = .same), decide (wd = .many), decide (wd = .enough), decide (wd = .all)], true, rfl, rfl, upd_same, _, _, rfl, rfl, ?_⟩
    have ec : ([decide (wd = .prime), decide (wd = .row), decide (wd = .spot), decide (wd = .none), decide (wd = .same), decide (wd = .many), decide (wd = .enough), decide (wd = .all)].countP (· == true)) = 1 := by
      cases wd with
      | done => exact absurd rfl hne
      | _ => rfl
    rw [ec]
    exact hq _ s6
  refine ⟨_, rfl, _, _, rfl, rfl, _, rfl, ?_⟩
  refine ite2 (fun g => ?_) (fun g => ?_)
  · have g' : k < 6 := of_decide_eq_true g
    have e1 : wAll k p ns ms pts x y cn = wTwoW k p ns ms := if_pos g'
    rw [e1] at q
    exact ⟨_, rfl, _, rfl, _, rfl, _, rfl, k, p, a, b, ns, ms, rfl, S.ha, S.hb, S.la, S.lb, fun H' hs => ⟨fun z v => by have := q H' hs; rw [z] at this; exact this, fun z => fin _ H' z fun H2 hs2 => by have := q H2 (hs.trans hs2); rw [decide_eq_true z] at this; exact this⟩⟩
  · have g' : ¬ k < 6 := of_decide_eq_false (Bool.eq_false_iff.mpr g)
    have e1 : wAll k p ns ms pts x y cn = wOther k p ns ms pts x y cn := if_neg g'
    rw [e1] at q
    exact ⟨_, rfl, _, rfl, _, rfl, _, rfl, _, rfl, _, rfl, k, p, a, b, d, e, ns, ms, ts, pts, x, y, cn, rfl, S, fun H' hs => ⟨fun z v => by have := q H' hs; rw [z] at this; exact this, fun z => fin _ H' z fun H2 hs2 => by have := q H2 (hs.trans hs2); rw [decide_eq_true z] at this; exact this⟩⟩
def sv (w : Wd) : V := .str w.str
theorem sv_done (w : Wd) : decide (sv w = V.str "done") = decide (w = .done) := by
  cases w <;> first | exact decide_eq_true rfl | (rw [decide_eq_false (fun z => by injection z with z; revert z; decide +kernel), decide_eq_false (by decide)])
theorem cut_last (ns : List Int) : ∃ cs : List Int, cutV (ns.map V.int) (some (-1)) none = cs.map V.int ∧ (cs = [0] ↔ 0 < ns.length ∧ ns.getD (ns.length - 1) 0 = 0) := by
  have e : cutV (ns.map V.int) (some (-1)) none = (ns.drop (ns.length - 1)).map V.int := by
    unfold cutV
    rw [HT.sIx_none, List.length_map, show HT.sIx ns.length 0 (some (-1)) = ns.length - 1 from (by show (if (-1 : Int) < 0 then ((-1 : Int) + (ns.length : Int)).toNat else min (-1 : Int).toNat ns.length) = ns.length - 1; rw [if_pos (by decide)]; omega), List.map_drop, List.take_of_length_le (by rw [List.length_drop, List.length_map]; omega)]
  refine ⟨_, e, ?_⟩
  by_cases h : 0 < ns.length
  · have hd : ns.drop (ns.length - 1) = [ns.getD (ns.length - 1) 0] := by
      rw [List.drop_eq_getElem_cons (by omega), List.getD_eq_getElem?_getD, List.getElem?_eq_getElem (by omega), show ns.length - 1 + 1 = ns.length by omega, List.drop_length]
      rfl
    rw [hd]
    exact ⟨fun z => ⟨h, by injection z⟩, fun z => by rw [z.2]⟩
  · have hn : ns = [] := List.length_eq_zero_iff.mp (by omega)
    subst hn
    exact ⟨fun z => (by cases z), fun z => absurd z.1 (by decide)⟩
theorem not_row {p : Int} {ns : List Int} : (¬ Row p ns) ↔ (¬ (∀ x ∈ ns, 0 ≤ x ∧ x < p) ∨ (0 < ns.length ∧ ns.getD (ns.length - 1) 0 = 0)) := by
  constructor
  · intro h
    by_cases d : ∀ x ∈ ns, 0 ≤ x ∧ x < p
    · by_cases g : 0 < ns.length ∧ ns.getD (ns.length - 1) 0 = 0
      · exact .inr g
      · exact absurd ⟨d, fun z y => g ⟨z, y⟩⟩ h
    · exact .inl d
  · intro h z
    rcases h with h | h
    · exact h z.all
    · exact z.last h.1 h.2
theorem at_two (u v : V) (b : Bool) : atI [u, v] (if b then 1 else 0) = some (if b then v else u) := by cases b <;> rfl
noncomputable def dueRow (p : Int) (ns ms : List Int) (x : Int) : List Wd := [wRows p ns ms, wRows p ns ms, wRows p ns ms, wSplit p ns ms, wRows p ns ms, wRows p ns ms, wWorth p ms x, wRoots p ns, wInv p x]
abbrev s_L_row_words : Stmt := top 65
theorem sc_L_row_words : FnScope ["_law_prime", "_law_one", "_law_two", "_law_spot", "_law_first", "_law_second", "_law_due"] ["_law_prime", "_law_one", "_law_two", "_law_spot"] (defScope s_L_row_words) := ⟨rfl, rfl, rfl, by decide +kernel, rfl, by decide +kernel, by decide +kernel⟩
def spRowWords (K : PySem.W.Frag) : Sp := fun vs H Q _ => ∃ (p : Int) (a b : Addr) (ns ms : List Int) (x : Int), vs = [.int p, .ref a, .ref b, .int x] ∧ Pr p ∧ SqL K H a (ns.map V.int) ∧ SqL K H b (ms.map V.int) ∧
  ∀ r H', Same H H' → H' r = some (.lst ((dueRow p ns ms x).map sv)) → Q (.ref r) H'
theorem ok_L_row_words {n : Nat} {f f1 : Addr} {fd d1 : FuncData} (F : Fun K "_law_row_words" "_law_row_words" s_L_row_words f fd) (T : Txt K mg) (D_L_any_bad : Df K mg "_law_any_bad" f1 d1 ["_law_prime", "_law_numbers"]) (G_L_any_bad : FnOk P w K mg base CX0 n f1 d1 ["_law_prime", "_law_numbers"] (spAnyBad K)) :
    FnOk P w K mg base CX0 (n + 1) f fd ["_law_prime", "_law_one", "_law_two", "_law_spot"] (spRowWords K) := by
  refine F.ok sc_L_row_words (fun vs H Q E h => ?_) (fun cdv A outer s H vs Q E hr h => ?_)
  · obtain ⟨p, a, b, ns, ms, x, rfl, _⟩ := h
    rfl
  obtain ⟨p, a, b, ns, ms, x, rfl, hp, hA, hB, q⟩ := h
  have hp0 := hp.lo
  have hu := hr.units
  have eP : wPr p = .done := ifW_done hp
  refine ⟨_, (pss_cut (ps_set (i := 4) sc_L_row_words.nd rfl (Or.inl rfl) (pe_or (pcall D_L_any_bad G_L_any_bad hr (pa_cons (pv 0) (pa_cons (pv 1) pa_nil))) (pe_one (pe_cmpR (op_eqL hu) (pe_slice sl_list (pv 1) (po_some (pe_un un_neg pe_int)) po_none) (pe_lst (pa_cons pe_int pa_nil)) (nomark _)))))
    (pss_cut (ps_set (i := 5) sc_L_row_words.nd rfl (Or.inl rfl) (pe_or (pcall D_L_any_bad G_L_any_bad hr (pa_cons (pv 0) (pa_cons (pv 2) pa_nil))) (pe_one (pe_cmpR (op_eqL hu) (pe_slice sl_list (pv 2) (po_some (pe_un un_neg pe_int)) po_none) (pe_lst (pa_cons pe_int pa_nil)) (nomark _)))))
    (pss_cut (ps_set (i := 6) sc_L_row_words.nd rfl (Or.inl rfl) (pe_op op_rep (pe_lst (pa_cons (pe_ix ix_list (pe_lst (pa_cons pe_str (pa_cons pe_str pa_nil))) (pe_callTy call_intB rfl T.int bt_int (pa_cons (pe_or (pv 4) (pe_one (pv 5))) pa_nil)) (fun _ _ => rfl)) pa_nil)) pe_int))
    (pss_cut (ps_if (PW.pt (pw_and (pt_cmpR op_eq (pe_ix ix_list (pv 6) pe_int (fun _ _ => rfl)) pe_str (nomark _)) (pw_and1 (pt_cmpR (op_eqL hu) (pv 2) (pe_lst pa_nil) (nomark _))))) (pss_one (ps_asg pe_str (pg_sub (pv 6) pe_int set_list))) pss_nil)
    (pss_cut (ps_expr (pe_bm PySem.F.plainAttrs_list PySem.F.slot_list_append PySem.F.type_list_append mt_append (pv 6) (pa_cons (pe_ix ix_list (pe_lst (pa_cons pe_str (pa_cons pe_str pa_nil))) (pe_callTy call_intB rfl T.int bt_int (pa_cons (pcall D_L_any_bad G_L_any_bad hr (pa_cons (pv 0) (pa_cons (pe_lst (pa_cons (pv 3) pa_nil)) pa_nil))) pa_nil)) (fun _ _ => rfl)) pa_nil)))
    (pss_cut (ps_if (pt_val (pv 5)) (pss_one (ps_asg pe_str (pg_sub (pv 6) pe_int set_list))) pss_nil)
    (pss_cut (ps_expr (pe_bm PySem.F.plainAttrs_list PySem.F.slot_list_append PySem.F.type_list_append mt_append (pv 6) (pa_cons (pe_ix ix_list (pe_lst (pa_cons pe_str (pa_cons pe_str pa_nil))) (pe_callTy call_intB rfl T.int bt_int (pa_cons (pv 4) pa_nil)) (fun _ _ => rfl)) pa_nil)))
    (pss_cut (ps_if (pt_cmpR (op_eqL hu) (pv 1) (pe_lst pa_nil) (nomark _)) (pss_one (ps_asg pe_str (pg_sub (pv 6) pe_int set_list))) pss_nil)
    (pss_cut (ps_expr (pe_bm PySem.F.plainAttrs_list PySem.F.slot_list_append PySem.F.type_list_append mt_append (pv 6) (pa_cons (pe_ix ix_list (pe_lst (pa_cons pe_str (pa_cons pe_str pa_nil))) (pe_callTy call_intB rfl T.int bt_int (pa_cons (pcall D_L_any_bad G_L_any_bad hr (pa_cons (pv 0) (pa_cons (pe_lst (pa_cons (pv 3) pa_nil)) pa_nil))) pa_nil)) (fun _ _ => rfl)) pa_nil)))
    (pss_cut (ps_if (pt_cmpR op_eqI (pv 3) pe_int (nomark _)) (pss_one (ps_asg pe_str (pg_sub (pv 6) pe_int set_list))) pss_nil)
    (pss_one (ps_ret (pv 6))))))))))))), ?_⟩
  refine ⟨fun σ H' => Same H H' ∧ ∃ b1 : Bool, (b1 = true ↔ ¬ Row p ns) ∧ σ = [some (.int p), some (.ref a), some (.ref b), some (.int x), some (.bl b1), none, none], ?_, ?_⟩
  · refine ⟨_, rfl, _, rfl, p, a, ns, rfl, hA, fun t ht => ⟨_, rfl, ?_⟩⟩
    refine ite2 (fun d => ?_) (fun d => ?_)
    · exact ⟨Same.refl H, true, ⟨fun _ => not_row.mpr (.inl (ht.mp d)), fun _ => rfl⟩, rfl⟩
    · have hall : ∀ x ∈ ns, 0 ≤ x ∧ x < p := Classical.byContradiction fun z => d (ht.mpr z)
      refine ⟨_, rfl, _, rfl, _, rfl, a, _, rfl, hA, fun l hl => ?_⟩
      obtain ⟨cs, e1, e2⟩ := cut_last ns
      rw [e1]
      refine ⟨(by show 1 ≤ sizeLine; decide), fun l2 hl2 => ?_⟩
      have s1 := same_new hl (.lst (cs.map V.int))
      have s2 := same_new hl2 (.lst (([0] : List Int).map V.int))
      refine ⟨l, l2, cs, [0], rfl, rfl, SqL.of (s2 _ _ upd_same), SqL.of upd_same, s1.trans s2, _, ?_, rfl⟩
      show decide (cs = [0]) = true ↔ _
      rw [decide_eq_true_eq, e2, not_row]
      exact ⟨.inr, fun z => z.elim (fun y => absurd hall y) id⟩
  rintro σ H1 ⟨hs1, b1, hb1, rfl⟩
  refine ⟨fun σ H' => Same H H' ∧ ∃ b2 : Bool, (b2 = true ↔ ¬ Row p ms) ∧ σ = [some (.int p), some (.ref a), some (.ref b), some (.int x), some (.bl b1), some (.bl b2), none], ?_, ?_⟩
  · refine ⟨_, rfl, _, rfl, p, b, ms, rfl, hs1.seq hB, fun t ht => ⟨_, rfl, ?_⟩⟩
    refine ite2 (fun d => ?_) (fun d => ?_)
    · exact ⟨hs1, true, ⟨fun _ => not_row.mpr (.inl (ht.mp d)), fun _ => rfl⟩, rfl⟩
    · have hall : ∀ x ∈ ms, 0 ≤ x ∧ x < p := Classical.byContradiction fun z => d (ht.mpr z)
      refine ⟨_, rfl, _, rfl, _, rfl, b, _, rfl, hs1.seq hB, fun l hl => ?_⟩
      obtain ⟨cs, e1, e2⟩ := cut_last ms
      rw [e1]
      refine ⟨(by show 1 ≤ sizeLine; decide), fun l2 hl2 => ?_⟩
      have s1 := same_new hl (.lst (cs.map V.int))
      have s2 := same_new hl2 (.lst (([0] : List Int).map V.int))
      refine ⟨l, l2, cs, [0], rfl, rfl, SqL.of (s2 _ _ upd_same), SqL.of upd_same, hs1.trans (s1.trans s2), _, ?_, rfl⟩
      show decide (cs = [0]) = true ↔ _
      rw [decide_eq_true_eq, e2, not_row]
      exact ⟨.inr, fun z => z.elim (fun y => absurd hall y) id⟩
  clear hs1 H1
  rintro σ H1 ⟨hs1, b2, hb2, rfl⟩
  have eR1 : wRow p ns = if b1 then .row else .done := by
    cases b1 with
    | true => exact ifW_ne (hb1.mp rfl)
    | false => exact ifW_done (Classical.byContradiction fun z => Bool.noConfusion (hb1.mpr z))
  have eR2 : wRow p ms = if b2 then .row else .done := by
    cases b2 with
    | true => exact ifW_ne (hb2.mp rfl)
    | false => exact ifW_done (Classical.byContradiction fun z => Bool.noConfusion (hb2.mpr z))
  have eRR : wRows p ns ms = if b1 || b2 then .row else .done := by
    unfold wRows
    rw [thenW_done eP, eR1, eR2]
    cases b1 <;> cases b2 <;> rfl
  refine ⟨fun σ H' => Same H H' ∧ ∃ r : Addr, H r = none ∧ H' r = some (.lst ((List.replicate 6 (wRows p ns ms)).map sv)) ∧ σ = [some (.int p), some (.ref a), some (.ref b), some (.int x), some (.bl b1), some (.bl b2), some (.ref r)], ?_, ?_⟩
  · refine ⟨(by show 2 ≤ sizeLine; decide), fun l1 hl1 => ?_⟩
    have s1 := hs1.trans (same_new hl1 (.lst [sv .done, sv .row]))
    have e1 : upd H1 l1 (.lst [sv .done, sv .row]) l1 = some (.lst [sv .done, sv .row]) := upd_same
    refine ⟨_, rfl, _, rfl, ?_⟩
    have go : ∀ t : Bool, t = (b1 || b2) → (∃ t' : Bool, [V.bl t] = [V.bl t'] ∧ rIxL K (.ref l1) (.int (if t' then 1 else 0)) (upd H1 l1 (.lst [sv .done, sv .row])) (fun v H2 => [v].length ≤ sizeLine ∧ ∀ p0, H2 p0 = none → rRep (.ref p0) (.int 6) (upd H2 p0 (.lst [v])) fun v H' => Same H H' ∧ ∃ r : Addr, H r = none ∧ H' r = some (.lst ((List.replicate 6 (wRows p ns ms)).map sv)) ∧ ([some (.int p), some (.ref a), some (.ref b), some (.int x), some (.bl b1), some (.bl b2), none] : St).set 6 (some v) = [some (.int p), some (.ref a), some (.ref b), some (.int x), some (.bl b1), some (.bl b2), some (.ref r)])) := fun t ht => by
      refine ⟨t, rfl, l1, _, _, _, rfl, rfl, SqL.of e1, at_two _ _ _, (by show 1 ≤ sizeLine; decide), fun l2 hl2 => ?_⟩
      have s2 := s1.trans (same_new hl2 (.lst [if t then sv .row else sv .done]))
      refine ⟨l2, 6, _, rfl, rfl, upd_same, (by decide), (by decide), (by show 6 ≤ sizeLine; decide), fun l3 hl3 => ?_⟩
      refine ⟨s2.trans (same_new hl3 _), l3, ?_, ?_, rfl⟩
      · cases hz : H l3 with
        | none => rfl
        | some o => rw [s2 _ _ hz] at hl3; cases hl3
      · rw [upd_same, eRR, ← ht]
        cases t <;> rfl
    cases hc : b1 with
    | true =>
      subst hc
      exact iteT (go true rfl)
    | false =>
      subst hc
      exact iteF ⟨_, rfl, go b2 rfl⟩
  clear hs1 H1
  rintro σ H1 ⟨hs1, r, hr0, hr1, rfl⟩
  refine ⟨fun σ H' => Same H H' ∧ H' r = some (.lst ([wRows p ns ms, wRows p ns ms, wRows p ns ms, wSplit p ns ms, wRows p ns ms, wRows p ns ms].map sv)) ∧ σ = [some (.int p), some (.ref a), some (.ref b), some (.int x), some (.bl b1), some (.bl b2), some (.ref r)], ?_, ?_⟩
  · refine ⟨_, rfl, r, _, _, _, rfl, rfl, SqL.of hr1, rfl, rfl, _, rfl, ?_⟩
    rw [sv_done]
    refine ite2 (fun d => ?_) (fun d => ?_)
    · have d' : wRows p ns ms = .done := of_decide_eq_true d
      refine ⟨_, rfl, (by show 0 ≤ sizeLine; decide), fun l hl => ?_⟩
      have s1 := same_new hl (.lst (([] : List Int).map V.int))
      have hr2 := s1 _ _ hr1
      refine ⟨b, l, ms, [], rfl, rfl, (hs1.trans s1).seq hB, SqL.of upd_same, _, rfl, ?_⟩
      refine ite2 (fun g => ?_) (fun g => ?_)
      · have g' : ms = [] := of_decide_eq_true g
        refine ⟨_, rfl, r, _, _, _, rfl, rfl, hr2, rfl, (hs1.trans s1).upd hr0 _, ?_, rfl⟩
        have e : wSplit p ns ms = .none := by
          unfold wSplit
          rw [thenW_done d', ifW_ne fun z => z g']
        rw [upd_same, e]
        rfl
      · have g' : ¬ ms = [] := of_decide_eq_false (Bool.eq_false_iff.mpr g)
        have e : wSplit p ns ms = wRows p ns ms := by
          unfold wSplit
          rw [thenW_done d', ifW_done g', d']
        refine ⟨hs1.trans s1, ?_, rfl⟩
        rw [e]
        exact hr2
    · have d' : ¬ wRows p ns ms = .done := of_decide_eq_false (Bool.eq_false_iff.mpr d)
      have e : wSplit p ns ms = wRows p ns ms := thenW_ne d'
      refine iteF ⟨hs1, ?_, rfl⟩
      rw [e]
      exact hr1
  clear hs1 hr1 H1
  rintro σ H1 ⟨hs1, hr1, rfl⟩
  refine ⟨fun σ H' => Same H H' ∧ H' r = some (.lst ([wRows p ns ms, wRows p ns ms, wRows p ns ms, wSplit p ns ms, wRows p ns ms, wRows p ns ms, wRem p x].map sv)) ∧ σ = [some (.int p), some (.ref a), some (.ref b), some (.int x), some (.bl b1), some (.bl b2), some (.ref r)], ?_, ?_⟩
  · refine ⟨_, rfl, .inl ⟨rfl, _, SqL.of hr1⟩, (by show 2 ≤ sizeLine; decide), fun l1 hl1 => ?_⟩
    have s1 := same_new hl1 (.lst [sv .done, sv .spot])
    refine ⟨_, rfl, _, rfl, (by show 1 ≤ sizeLine; decide), fun l2 hl2 => ?_⟩
    have s2 := same_new hl2 (.lst (([x] : List Int).map V.int))
    refine ⟨p, l2, [x], rfl, SqL.of upd_same, fun t ht => ⟨t, rfl, l1, _, _, _, rfl, rfl, SqL.of (s2 _ _ (show upd H1 l1 _ l1 = some (.lst [sv .done, sv .spot]) from upd_same)), at_two _ _ _, r, _, _, rfl, rfl, s2 _ _ (s1 _ _ hr1), (by show 6 < sizeLine; decide), ?_⟩⟩
    refine ⟨(hs1.trans (s1.trans s2)).upd hr0 _, ?_, rfl⟩
    have e : sv (wRem p x) = if t then sv .spot else sv .done := by
      cases t with
      | true => exact congrArg sv (ifW_ne fun z => (ht.mp rfl) fun y hy => by rw [List.mem_singleton.mp hy]; exact z)
      | false => exact congrArg sv (ifW_done (Classical.byContradiction fun z => Bool.noConfusion (ht.mpr fun y => z (y x (List.mem_singleton.mpr rfl)))))
    rw [upd_same]
    show some (HO.lst (_ ++ [_])) = _
    rw [← e]
    rfl
  clear hs1 hr1 H1
  rintro σ H1 ⟨hs1, hr1, rfl⟩
  refine ⟨fun σ H' => Same H H' ∧ H' r = some (.lst ([wRows p ns ms, wRows p ns ms, wRows p ns ms, wSplit p ns ms, wRows p ns ms, wRows p ns ms, wWorth p ms x].map sv)) ∧ σ = [some (.int p), some (.ref a), some (.ref b), some (.int x), some (.bl b1), some (.bl b2), some (.ref r)], ?_, ?_⟩
  · refine ⟨_, rfl, _, rfl, ?_⟩
    cases hc : b2 with
    | true =>
      have e : wWorth p ms x = .row := by
        unfold wWorth
        rw [thenW_done eP, thenW_ne (by rw [eR2, hc]; decide), eR2, hc]
        rfl
      refine iteT ⟨_, rfl, r, _, _, _, rfl, rfl, hr1, rfl, hs1.upd hr0 _, ?_, rfl⟩
      rw [upd_same, e]
      rfl
    | false =>
      have e : wWorth p ms x = wRem p x := by
        unfold wWorth
        rw [thenW_done eP, thenW_done (by rw [eR2, hc]; rfl)]
      refine iteF ⟨hs1, ?_, rfl⟩
      rw [e]
      exact hr1
  clear hs1 hr1 H1
  rintro σ H1 ⟨hs1, hr1, rfl⟩
  refine ⟨fun σ H' => Same H H' ∧ H' r = some (.lst ([wRows p ns ms, wRows p ns ms, wRows p ns ms, wSplit p ns ms, wRows p ns ms, wRows p ns ms, wWorth p ms x, wRow p ns].map sv)) ∧ σ = [some (.int p), some (.ref a), some (.ref b), some (.int x), some (.bl b1), some (.bl b2), some (.ref r)], ?_, ?_⟩
  · refine ⟨_, rfl, .inl ⟨rfl, _, SqL.of hr1⟩, (by show 2 ≤ sizeLine; decide), fun l1 hl1 => ?_⟩
    have s1 := same_new hl1 (.lst [sv .done, sv .row])
    refine ⟨_, rfl, b1, rfl, l1, _, _, _, rfl, rfl, SqL.of (show upd H1 l1 _ l1 = some (.lst [sv .done, sv .row]) from upd_same), at_two _ _ _, r, _, _, rfl, rfl, s1 _ _ hr1, (by show 7 < sizeLine; decide), ?_⟩
    refine ⟨(hs1.trans s1).upd hr0 _, ?_, rfl⟩
    have e : sv (wRow p ns) = if b1 then sv .row else sv .done := by
      rw [eR1]
      cases b1 <;> rfl
    rw [upd_same]
    show some (HO.lst (_ ++ [_])) = _
    rw [← e]
    rfl
  clear hs1 hr1 H1
  rintro σ H1 ⟨hs1, hr1, rfl⟩
  refine ⟨fun σ H' => Same H H' ∧ H' r = some (.lst ([wRows p ns ms, wRows p ns ms, wRows p ns ms, wSplit p ns ms, wRows p ns ms, wRows p ns ms, wWorth p ms x, wRoots p ns].map sv)) ∧ σ = [some (.int p), some (.ref a), some (.ref b), some (.int x), some (.bl b1), some (.bl b2), some (.ref r)], ?_, ?_⟩
  · refine ⟨_, rfl, (by show 0 ≤ sizeLine; decide), fun l hl => ?_⟩
    have s1 := same_new hl (.lst (([] : List Int).map V.int))
    have hr2 := s1 _ _ hr1
    refine ⟨a, l, ns, [], rfl, rfl, (hs1.trans s1).seq hA, SqL.of upd_same, _, rfl, ?_⟩
    refine ite2 (fun g => ?_) (fun g => ?_)
    · have g' : ns = [] := of_decide_eq_true g
      refine ⟨_, rfl, r, _, _, _, rfl, rfl, hr2, rfl, (hs1.trans s1).upd hr0 _, ?_, rfl⟩
      have e : wRoots p ns = .all := by
        unfold wRoots
        rw [thenW_done eP, thenW_done (show wRow p ns = .done from ifW_done ⟨fun x hx => (by rw [g'] at hx; cases hx), fun z => (by rw [g'] at z; cases z)⟩), ifW_ne fun z => z g']
      rw [upd_same, e]
      rfl
    · have g' : ¬ ns = [] := of_decide_eq_false (Bool.eq_false_iff.mpr g)
      have e : wRoots p ns = wRow p ns := by
        unfold wRoots
        rw [thenW_done eP, ifW_done g']
        by_cases z : wRow p ns = .done
        · rw [thenW_done z, z]
        · rw [thenW_ne z]
      refine ⟨hs1.trans s1, ?_, rfl⟩
      rw [e]
      exact hr2
  clear hs1 hr1 H1
  rintro σ H1 ⟨hs1, hr1, rfl⟩
  refine ⟨fun σ H' => Same H H' ∧ H' r = some (.lst ([wRows p ns ms, wRows p ns ms, wRows p ns ms, wSplit p ns ms, wRows p ns ms, wRows p ns ms, wWorth p ms x, wRoots p ns, wRem p x].map sv)) ∧ σ = [some (.int p), some (.ref a), some (.ref b), some (.int x), some (.bl b1), some (.bl b2), some (.ref r)], ?_, ?_⟩
  · refine ⟨_, rfl, .inl ⟨rfl, _, SqL.of hr1⟩, (by show 2 ≤ sizeLine; decide), fun l1 hl1 => ?_⟩
    have s1 := same_new hl1 (.lst [sv .done, sv .spot])
    refine ⟨_, rfl, _, rfl, (by show 1 ≤ sizeLine; decide), fun l2 hl2 => ?_⟩
    have s2 := same_new hl2 (.lst (([x] : List Int).map V.int))
    refine ⟨p, l2, [x], rfl, SqL.of upd_same, fun t ht => ⟨t, rfl, l1, _, _, _, rfl, rfl, SqL.of (s2 _ _ (show upd H1 l1 _ l1 = some (.lst [sv .done, sv .spot]) from upd_same)), at_two _ _ _, r, _, _, rfl, rfl, s2 _ _ (s1 _ _ hr1), (by show 8 < sizeLine; decide), ?_⟩⟩
    refine ⟨(hs1.trans (s1.trans s2)).upd hr0 _, ?_, rfl⟩
    have e : sv (wRem p x) = if t then sv .spot else sv .done := by
      cases t with
      | true => exact congrArg sv (ifW_ne fun z => (ht.mp rfl) fun y hy => by rw [List.mem_singleton.mp hy]; exact z)
      | false => exact congrArg sv (ifW_done (Classical.byContradiction fun z => Bool.noConfusion (ht.mpr fun y => z (y x (List.mem_singleton.mpr rfl)))))
    rw [upd_same]
    show some (HO.lst (_ ++ [_])) = _
    rw [← e]
    rfl
  clear hs1 hr1 H1
  rintro σ H1 ⟨hs1, hr1, rfl⟩
  refine ⟨fun σ H' => Same H H' ∧ H' r = some (.lst ((dueRow p ns ms x).map sv)) ∧ σ = [some (.int p), some (.ref a), some (.ref b), some (.int x), some (.bl b1), some (.bl b2), some (.ref r)], ?_, ?_⟩
  · refine ⟨_, rfl, _, _, rfl, rfl, _, rfl, ?_⟩
    refine ite2 (fun g => ?_) (fun g => ?_)
    · have g' : x = 0 := of_decide_eq_true g
      refine ⟨_, rfl, r, _, _, _, rfl, rfl, hr1, rfl, hs1.upd hr0 _, ?_, rfl⟩
      have e : wInv p x = .none := by
        unfold wInv
        rw [thenW_done eP, thenW_done (show wRem p x = .done from ifW_done ⟨by omega, by omega⟩), ifW_ne fun z => z g']
      rw [upd_same]
      unfold dueRow
      rw [e]
      rfl
    · have g' : ¬ x = 0 := of_decide_eq_false (Bool.eq_false_iff.mpr g)
      have e : wInv p x = wRem p x := by
        unfold wInv
        rw [thenW_done eP, ifW_done g']
        by_cases z : wRem p x = .done
        · rw [thenW_done z, z]
        · rw [thenW_ne z]
      refine ⟨hs1, ?_, rfl⟩
      unfold dueRow
      rw [e]
      exact hr1
  rintro σ H2 ⟨hs2, hr2, rfl⟩
  exact ⟨_, rfl, q r H2 hs2 hr2⟩
theorem flat_ints (ns : List Int) : (ns.map V.int).all flatV = true := by
  rw [List.all_eq_true]
  intro v hv
  obtain ⟨x, _, rfl⟩ := List.mem_map.mp hv
  rfl
theorem inV_ints (x : Int) (ns : List Int) : inV (.int x) (ns.map V.int) = true ↔ x ∈ ns := by
  unfold inV
  rw [List.any_eq_true]
  constructor
  · rintro ⟨v, hv, e⟩
    obtain ⟨y, hy, rfl⟩ := List.mem_map.mp hv
    have e' : (y == x) = true := e
    rw [← beq_iff_eq.mp e']
    exact hy
  · intro h
    exact ⟨.int x, List.mem_map_of_mem h, (show (x == x) = true from beq_self_eq_true x)⟩
theorem nodup_iff_take (zs : List Int) : zs.Nodup ↔ ∀ k, k < zs.length → zs.getD k 0 ∉ zs.take k := by
  unfold List.Nodup
  rw [List.pairwise_iff_getElem]
  constructor
  · intro h k hk hm
    obtain ⟨i, hi, e⟩ := List.mem_take_iff_getElem.mp hm
    rw [List.getD_eq_getElem?_getD, List.getElem?_eq_getElem hk] at e
    exact h i k (by omega) hk (by omega) e
  · intro h i j hi hj hij e
    refine h j hj (List.mem_take_iff_getElem.mpr ⟨i, by omega, ?_⟩)
    rw [e, List.getD_eq_getElem?_getD, List.getElem?_eq_getElem hj]
    rfl
def pk (zs : List Int) : V → Bool
  | .int k => inV (.int (zs.getD k.toNat 0)) ((zs.take k.toNat).map V.int)
  | _ => false
theorem pk_none (zs : List Int) : ((rangeV 0 zs.length).filter (pk zs)).length = 0 ↔ zs.Nodup := by
  rw [nodup_iff_take, List.length_eq_zero_iff, List.filter_eq_nil_iff]
  constructor
  · intro h k hk hm
    refine h (.int (k : Int)) (List.mem_iff_getElem?.mpr ⟨k, by rw [rangeV_get _ _ _ hk, Int.zero_add]⟩) ?_
    exact (inV_ints _ _).mpr hm
  · intro h v hv
    obtain ⟨i, hi, rfl⟩ := rangeV_mem hv
    rw [Int.zero_add]
    exact fun z => h i hi ((inV_ints _ _).mp z)
theorem nums_read {H : Hp} : ∀ {ts : List Addr} {pts : List (Int × Int)} {ys : List V}, Pts H ts pts → Paired (fun x y => ∃ (t : Addr) (xy : Int × Int), x = .ref t ∧ H t = some (.tup [.int xy.1, .int xy.2]) ∧ y = .int xy.2) (ts.map V.ref) ys → ys = (pts.map Prod.snd).map V.int
  | _, _, _, .nil, .nil => rfl
  | t :: ts, xy :: pts, _, .cons h r, .cons f tl => by
    obtain ⟨t', xy', e1, e2, e3⟩ := f
    cases e1
    have h' : H t = some (.tup [.int xy.1, .int xy.2]) := h
    rw [h'] at e2
    simp only [Option.some.injEq, HO.tup.injEq, List.cons.injEq, V.int.injEq, and_true] at e2
    rw [e3, ← e2.2, nums_read r tl]
    rfl
theorem Same.fresh {H H1 : Hp} {r : Addr} (hs : Same H H1) (h : H1 r = none) : H r = none := by
  cases hz : H r with
  | none => rfl
  | some o => rw [hs _ _ hz] at h; cases h
theorem all_coords {p : Int} {pts : List (Int × Int)} : (∀ z ∈ pts.map Prod.fst ++ pts.map Prod.snd, 0 ≤ z ∧ z < p) ↔ ∀ xy ∈ pts, 0 ≤ xy.1 ∧ xy.1 < p ∧ 0 ≤ xy.2 ∧ xy.2 < p := by
  constructor
  · intro h xy hxy
    have h1 := h xy.1 (List.mem_append_left _ (List.mem_map_of_mem hxy))
    have h2 := h xy.2 (List.mem_append_right _ (List.mem_map_of_mem hxy))
    exact ⟨h1.1, h1.2, h2.1, h2.2⟩
  · intro h z hz
    rcases List.mem_append.mp hz with hz | hz
    · obtain ⟨xy, hxy, rfl⟩ := List.mem_map.mp hz
      exact ⟨(h xy hxy).1, (h xy hxy).2.1⟩
    · obtain ⟨xy, hxy, rfl⟩ := List.mem_map.mp hz
      exact ⟨(h xy hxy).2.2.1, (h xy hxy).2.2.2⟩
noncomputable def duePts (p : Int) (pts : List (Int × Int)) (x y cn : Int) : List Wd := [wThru p 0 pts, wThru p 1 pts, wRowFor p pts 2 x, wThru p 1 pts, wShares p x [y] cn]
abbrev s_L_point_words : Stmt := top 66
theorem sc_L_point_words : FnScope ["_law_prime", "_law_points", "_law_numbers", "_law_spots", "_law_apart", "_law_word", "_law_due", "_law_last"] ["_law_prime", "_law_points", "_law_numbers"] (defScope s_L_point_words) := ⟨rfl, rfl, rfl, by decide +kernel, rfl, by decide +kernel, by decide +kernel⟩
def spPtWords (K : PySem.W.Frag) : Sp := fun vs H Q _ => ∃ (p : Int) (d e : Addr) (ts : List Addr) (pts : List (Int × Int)) (x y cn : Int), vs = [.int p, .ref d, .ref e] ∧ Pr p ∧ H d = some (.lst (ts.map V.ref)) ∧ Pts H ts pts ∧ H e = some (.lst (([x, y, cn] : List Int).map V.int)) ∧ pts.length ≤ 50 ∧
  ∀ r H', Same H H' → H' r = some (.lst ((duePts p pts x y cn).map sv)) → Q (.ref r) H'
theorem ok_L_point_words {n : Nat} {f f1 : Addr} {fd d1 : FuncData} (F : Fun K "_law_point_words" "_law_point_words" s_L_point_words f fd) (T : Txt K mg) (D_L_any_bad : Df K mg "_law_any_bad" f1 d1 ["_law_prime", "_law_numbers"]) (G_L_any_bad : FnOk P w K mg base CX0 n f1 d1 ["_law_prime", "_law_numbers"] (spAnyBad K)) :
    FnOk P w K mg base CX0 (n + 1) f fd ["_law_prime", "_law_points", "_law_numbers"] (spPtWords K) := by
  refine F.ok sc_L_point_words (fun vs H Q E h => ?_) (fun cdv A outer s H vs Q E hr h => ?_)
  · obtain ⟨p, d, e, ts, pts, x, y, cn, rfl, _⟩ := h
    rfl
  obtain ⟨p, d, e, ts, pts, x, y, cn, rfl, hp, hd, hP, he, hl, q⟩ := h
  have hp0 := hp.lo
  have hu := hr.units
  have htl := hP.len
  have hml : (ts.map V.ref).length = ts.length := List.length_map _
  have hfl : (pts.map Prod.fst).length = pts.length := List.length_map _
  have hsl : (pts.map Prod.snd).length = pts.length := List.length_map _
  have hil : ((pts.map Prod.fst).map V.int).length = pts.length := by rw [List.length_map, hfl]
  have eP : wPr p = .done := ifW_done hp
  have eT : ∀ o, wThru p o pts = wPts p o pts := fun o => thenW_done eP
  refine ⟨_, (pss_cut (ps_set (i := 3) sc_L_point_words.nd rfl (Or.inr rfl) (pe_comp (N' := ["_law_point"]) (js := [none]) (compOk_of rfl) rfl (pi_list (pv 1)) (fun _ _ _ _ => (pg_name (i := 0) (show (["_law_point"] : List Str).Nodup by decide +kernel) rfl (Or.inl rfl) (Or.inr rfl))) (fun _ _ _ _ => pif_nil) (fun _ _ _ _ => (pe_ix (r := rIxT K) ix_tup (pv 0) pe_int (fun _ _ => rfl)))))
    (pss_cut (ps_set (i := 4) sc_L_point_words.nd rfl (Or.inl rfl) (pe_cmpR op_eqI (pe_callB call_len_seq rfl T.len bt_len (pa_cons (pe_comp (N' := ["_law_k", "_law_spots"]) (js := [none, some 3]) (compOk_of rfl) rfl (pi_range1 rfl T.range (pa_cons (pe_callB call_len_seq rfl T.len bt_len (pa_cons (pv 3) pa_nil)) pa_nil)) (fun _ _ _ _ => (pg_name (i := 0) (show (["_law_k", "_law_spots"] : List Str).Nodup by decide +kernel) rfl (Or.inl rfl) (Or.inr rfl))) (fun _ _ _ _ => (pif_one (pt_cmpR (r := rIn K false) op_in_seq (pe_ix (r := rIxL K) ix_list (pv 1) (pv 0) (fun _ _ => rfl)) (pe_slice (r := rSlL K) sl_list (pv 1) po_none (po_some (pv 0))) (by with_unfolding_all rfl)))) (fun _ _ _ _ => (pv 0))) pa_nil)) pe_int (nomark _)))
    (pss_cut (ps_set (i := 5) sc_L_point_words.nd rfl (Or.inl rfl) (pe_ix ix_list (pe_lst (pa_cons pe_str (pa_cons pe_str pa_nil))) (pe_callTy call_intB rfl T.int bt_int (pa_cons (pv 4) pa_nil)) (fun _ _ => rfl)))
    (pss_cut (ps_if (pt_val (pcall D_L_any_bad G_L_any_bad hr (pa_cons (pv 0) (pa_cons (pe_op op_cat (pv 3) (pe_comp (N' := ["_law_point"]) (js := [none]) (compOk_of rfl) rfl (pi_list (pv 1)) (fun _ _ _ _ => (pg_name (i := 0) (show (["_law_point"] : List Str).Nodup by decide +kernel) rfl (Or.inl rfl) (Or.inr rfl))) (fun _ _ _ _ => pif_nil) (fun _ _ _ _ => (pe_ix (r := rIxT K) ix_tup (pv 0) pe_int (fun _ _ => rfl))))) pa_nil)))) (pss_one (ps_set (i := 5) sc_L_point_words.nd rfl (Or.inl rfl) pe_str)) pss_nil)
    (pss_cut (ps_set (i := 6) sc_L_point_words.nd rfl (Or.inl rfl) (pe_lst (pa_cons (pv 5) pa_nil)))
    (pss_cut (ps_if (pt_cmpR (r := rIn K false) op_in_seq pe_int (pv 3) (by with_unfolding_all rfl)) (pss_one (ps_set (i := 5) sc_L_point_words.nd rfl (Or.inl rfl) pe_str)) pss_nil)
    (pss_cut (ps_expr (pe_bm PySem.F.plainAttrs_list PySem.F.slot_list_append PySem.F.type_list_append mt_append (pv 6) (pa_cons (pv 5) pa_nil)))
    (pss_cons (ps_set (i := 7) sc_L_point_words.nd rfl (Or.inl rfl) (pv 5))
    (pss_cut (ps_if (PW.pt (pw_and (pt_cmpR op_eq (pv 5) pe_str (nomark _)) (pw_and1 (pt_val (pcall D_L_any_bad G_L_any_bad hr (pa_cons (pv 0) (pa_cons (pe_slice sl_list (pv 2) po_none (po_some pe_int)) pa_nil))))))) (pss_one (ps_set (i := 7) sc_L_point_words.nd rfl (Or.inl rfl) pe_str)) pss_nil)
    (pss_cut (ps_if (PW.pt (pw_and (pt_cmpR op_eq (pv 7) pe_str (nomark _)) (pw_and1 (pt_cmpR op_gt (pe_callB call_len_seq rfl T.len bt_len (pa_cons (pv 1) pa_nil)) pe_int (nomark _))))) (pss_one (ps_set (i := 7) sc_L_point_words.nd rfl (Or.inl rfl) pe_str)) pss_nil)
    (pss_cut (ps_expr (pe_bm PySem.F.plainAttrs_list PySem.F.slot_list_extend PySem.F.type_list_extend mt_extend (pv 6) (pa_cons (pe_lst (pa_cons (pv 7) (pa_cons (pv 5) pa_nil))) pa_nil)))
    (pss_cut (ps_set (i := 7) sc_L_point_words.nd rfl (Or.inl rfl) (pe_ix ix_list (pe_lst (pa_cons pe_str (pa_cons pe_str pa_nil))) (pe_callTy call_intB rfl T.int bt_int (pa_cons (pe_cmpR op_ge (pe_ix ix_list (pv 2) pe_int (fun _ _ => rfl)) (pv 0) (nomark _)) pa_nil)) (fun _ _ => rfl)))
    (pss_cut (ps_if (pt_val (pcall D_L_any_bad G_L_any_bad hr (pa_cons (pv 0) (pa_cons (pe_slice sl_list (pv 2) po_none (po_some pe_int)) pa_nil)))) (pss_one (ps_set (i := 7) sc_L_point_words.nd rfl (Or.inl rfl) pe_str)) pss_nil)
    (pss_cut (ps_expr (pe_bm PySem.F.plainAttrs_list PySem.F.slot_list_append PySem.F.type_list_append mt_append (pv 6) (pa_cons (pv 7) pa_nil)))
    (pss_one (ps_ret (pv 6))))))))))))))))), ?_⟩
  refine ⟨fun σ H' => Same H H' ∧ ∃ D0 : Addr, H' D0 = some (.lst ((pts.map Prod.fst).map V.int)) ∧ σ = [some (.int p), some (.ref d), some (.ref e), some (.ref D0), none, none, none, none], ?_, ?_⟩
  · refine ⟨_, rfl, d, rfl, ⟨_, SqL.of hd⟩, fun D hD => ?_⟩
    refine comp_all (xs := ts.map V.ref) hD (by rw [hml]; exact Nat.le_of_lt (small1000 (by omega))) (fun x y => ∃ (t : Addr) (xy : Int × Int), x = .ref t ∧ H t = some (.tup [.int xy.1, .int xy.2]) ∧ y = .int xy.1) (itl_go (SqL.of hd)) ?_ ?_
    · intro x H1 R hx hs z
      obtain ⟨i, hi⟩ := List.mem_iff_getElem?.mp hx
      obtain ⟨t, xy, rfl, _, ht⟩ := hP.get hi
      exact ⟨_, rfl, t, _, _, _, rfl, rfl, SqT.of (hs _ _ ht), rfl, z _ _ (Same.refl _) ⟨t, xy, rfl, ht, rfl⟩⟩
    · intro ys H1 hF hs hDy
      have hys := spots_read hP hF
      subst hys
      exact ⟨hs, D, hDy, rfl⟩
  rintro σ H1 ⟨hs1, D0, hD1, rfl⟩
  refine ⟨fun σ H' => Same H H' ∧ H' D0 = some (.lst ((pts.map Prod.fst).map V.int)) ∧ ∃ b1 : Bool, (b1 = true ↔ (pts.map Prod.fst).Nodup) ∧ σ = [some (.int p), some (.ref d), some (.ref e), some (.ref D0), some (.bl b1), none, none, none], ?_, ?_⟩
  · refine ⟨_, rfl, D0, _, rfl, .inl (SqL.of hD1), _, rfl, (by omega), (by rw [hil]; omega), fun D hD => ?_⟩
    rw [hil, Int.toNat_natCast]
    refine comp_by (xs := rangeV 0 pts.length) hD (by rw [rangeV_length]; exact Nat.le_of_lt (small1000 (by omega))) (fun x => [some x, some (.ref D0)]) (pk (pts.map Prod.fst)) (fun x y => y = x) itr_go.1 itr_go.2.1 itr_go.2.2 ?_ ?_ ?_ ?_
    · intro x τ H' R _ _ hτ z
      rcases hτ with rfl | ⟨x', rfl⟩
      · exact z
      · exact z
    · intro x H' R hx hs z
      obtain ⟨i, hi, rfl⟩ := rangeV_mem hx
      rw [Int.zero_add] at z ⊢
      refine ⟨_, rfl, _, rfl, D0, _, _, _, rfl, rfl, SqL.of (hs _ _ hD1), at_nat (by rw [hfl]; exact hi), _, rfl, _, rfl, _, rfl, D0, _, rfl, SqL.of (hs _ _ hD1), fun l hl => ?_⟩
      rw [cut_take]
      exact ⟨l, _, rfl, .inl (SqL.of upd_same), rfl, flat_ints _, _, rfl, z _ (same_new hl _)⟩
    · intro x H' R hx _ _ z
      exact ⟨_, rfl, z x H' (Same.refl H') rfl⟩
    · intro ys H' hF hS' hDy
      have hys : ys.length = ((rangeV 0 pts.length).filter (pk (pts.map Prod.fst))).length := (Paired.length hF).symm
      refine ⟨D, _, rfl, .inl (SqL.of hDy), _, _, rfl, rfl, hs1.trans hS', hS' _ _ hD1, _, ?_, rfl⟩
      show decide ((ys.length : Int) = 0) = true ↔ _
      have pn := pk_none (pts.map Prod.fst)
      rw [hfl] at pn
      rw [decide_eq_true_eq, ← pn, hys]
      omega
  clear hs1 hD1 H1
  rintro σ H1 ⟨hs1, hD1, b1, hb1, rfl⟩
  refine ⟨fun σ H' => Same H H' ∧ H' D0 = some (.lst ((pts.map Prod.fst).map V.int)) ∧ σ = [some (.int p), some (.ref d), some (.ref e), some (.ref D0), some (.bl b1), some (sv (ifW (pts.map Prod.fst).Nodup .same)), none, none], ?_, ?_⟩
  · refine ⟨(by show 2 ≤ sizeLine; decide), fun l1 hl1 => ?_⟩
    have s1 := same_new hl1 (.lst [sv .same, sv .done])
    refine ⟨_, rfl, b1, rfl, l1, _, _, _, rfl, rfl, SqL.of (show upd H1 l1 _ l1 = some (.lst [sv .same, sv .done]) from upd_same), at_two _ _ _, hs1.trans s1, s1 _ _ hD1, ?_⟩
    have e : sv (ifW (pts.map Prod.fst).Nodup .same) = if b1 then sv .done else sv .same := by
      cases b1 with
      | true => exact congrArg sv (ifW_done (hb1.mp rfl))
      | false => exact congrArg sv (ifW_ne fun z => Bool.noConfusion (hb1.mpr z))
    rw [e]
    rfl
  clear hs1 hD1 H1
  rintro σ H1 ⟨hs1, hD1, rfl⟩
  refine ⟨fun σ H' => Same H H' ∧ H' D0 = some (.lst ((pts.map Prod.fst).map V.int)) ∧ σ = [some (.int p), some (.ref d), some (.ref e), some (.ref D0), some (.bl b1), some (sv (wPts p 0 pts)), none, none], ?_, ?_⟩
  · refine ⟨_, rfl, _, rfl, _, rfl, d, rfl, ⟨_, SqL.of (hs1 _ _ hd)⟩, fun D hD => ?_⟩
    refine comp_all (xs := ts.map V.ref) hD (by rw [hml]; exact Nat.le_of_lt (small1000 (by omega))) (fun x y => ∃ (t : Addr) (xy : Int × Int), x = .ref t ∧ H t = some (.tup [.int xy.1, .int xy.2]) ∧ y = .int xy.2) (itl_go (SqL.of (hs1 _ _ hd))) ?_ ?_
    · intro x H2 R hx hs z
      obtain ⟨i, hi⟩ := List.mem_iff_getElem?.mp hx
      obtain ⟨t, xy, rfl, _, ht⟩ := hP.get hi
      exact ⟨_, rfl, t, _, _, _, rfl, rfl, SqT.of (hs _ _ (hs1 _ _ ht)), rfl, z _ _ (Same.refl _) ⟨t, xy, rfl, ht, rfl⟩⟩
    · intro ys H2 hF hs hDy
      have hys := nums_read hP hF
      subst hys
      refine ⟨D0, D, _, _, rfl, rfl, hs _ _ hD1, hDy, (by rw [List.length_map, List.length_map, List.length_map, List.length_map]; exact Nat.le_of_lt (small1000 (by omega))), fun l hl => ?_⟩
      have s2 := same_new hl (.lst ((pts.map Prod.fst).map V.int ++ (pts.map Prod.snd).map V.int))
      refine ⟨p, l, pts.map Prod.fst ++ pts.map Prod.snd, rfl, SqL.of (by rw [upd_same, List.map_append]), fun t ht => ⟨_, rfl, ?_⟩⟩
      rw [all_coords] at ht
      refine ite2 (fun g => ?_) (fun g => ?_)
      · have e : wPts p 0 pts = .spot := by
          unfold wPts
          rw [ifW_ne (ht.mp g), thenW_ne (by decide)]
        exact ⟨hs1.trans (hs.trans s2), s2 _ _ (hs _ _ hD1), by rw [e]; rfl⟩
      · have e : wPts p 0 pts = ifW (pts.map Prod.fst).Nodup .same := by
          unfold wPts
          rw [thenW_done (ifW_done (Classical.byContradiction fun z => g (ht.mpr z)))]
        exact ⟨hs1.trans (hs.trans s2), s2 _ _ (hs _ _ hD1), by rw [e]⟩
  clear hs1 hD1 H1
  rintro σ H4 ⟨hs4, hD4, rfl⟩
  have hd4 := hs4 _ _ hd
  have he4 := hs4 _ _ he
  refine ⟨fun σ H' => Same H4 H' ∧ ∃ r : Addr, H4 r = none ∧ H' r = some (.lst ([wPts p 0 pts].map sv)) ∧ σ = [some (.int p), some (.ref d), some (.ref e), some (.ref D0), some (.bl b1), some (sv (wPts p 0 pts)), some (.ref r), none], ?_, ?_⟩
  · refine ⟨_, rfl, (by show 1 ≤ sizeLine; decide), fun r hr0 => ?_⟩
    exact ⟨same_new hr0 _, r, hr0, upd_same, rfl⟩
  rintro σ H1 ⟨hs1, r, hr0, hr1, rfl⟩
  refine ⟨fun σ H' => Same H4 H' ∧ H' r = some (.lst ([wPts p 0 pts].map sv)) ∧ σ = [some (.int p), some (.ref d), some (.ref e), some (.ref D0), some (.bl b1), some (sv (wPts p 1 pts)), some (.ref r), none], ?_, ?_⟩
  · refine ⟨_, rfl, D0, _, rfl, .inl (SqL.of (hs1 _ _ hD4)), rfl, flat_ints _, _, rfl, ?_⟩
    refine ite2 (fun g => ?_) (fun g => ?_)
    · obtain ⟨xy, hxy, e0⟩ := List.mem_map.mp ((inV_ints _ _).mp g)
      have e : wPts p 1 pts = .spot := by
        unfold wPts
        rw [ifW_ne (fun z => by have := (z xy hxy).1; omega), thenW_ne (by decide)]
      exact ⟨hs1, hr1, by rw [e]; rfl⟩
    · have hall : ∀ xy ∈ pts, xy.1 ≠ 0 := fun xy hxy e0 => g ((inV_ints _ _).mpr (by rw [← e0]; exact List.mem_map_of_mem hxy))
      have e : wPts p 1 pts = wPts p 0 pts := by
        unfold wPts
        have : (∀ xy ∈ pts, 1 ≤ xy.1 ∧ xy.1 < p ∧ 0 ≤ xy.2 ∧ xy.2 < p) = (∀ xy ∈ pts, 0 ≤ xy.1 ∧ xy.1 < p ∧ 0 ≤ xy.2 ∧ xy.2 < p) := propext ⟨fun z xy h => ⟨by have := (z xy h).1; omega, (z xy h).2⟩, fun z xy h => ⟨by have := (z xy h).1; have := hall xy h; omega, (z xy h).2⟩⟩
        rw [this]
      exact ⟨hs1, hr1, by rw [e]⟩
  clear hs1 hr1 H1
  rintro σ H1 ⟨hs1, hr1, rfl⟩
  refine ⟨fun σ H' => Same H4 H' ∧ H' r = some (.lst ([wPts p 0 pts, wPts p 1 pts].map sv)) ∧ σ = [some (.int p), some (.ref d), some (.ref e), some (.ref D0), some (.bl b1), some (sv (wPts p 1 pts)), some (.ref r), none], ?_, ?_⟩
  · exact ⟨_, rfl, .inl ⟨rfl, _, SqL.of hr1⟩, _, rfl, r, _, _, rfl, rfl, hr1, (by show 1 < sizeLine; decide), hs1.upd hr0 _, upd_same, rfl⟩
  clear hs1 hr1 H1
  rintro σ H1 ⟨hs1, hr1, rfl⟩
  refine ⟨_, rfl, ?_⟩
  refine ⟨fun σ H' => Same H4 H' ∧ H' r = some (.lst ([wPts p 0 pts, wPts p 1 pts].map sv)) ∧ σ = [some (.int p), some (.ref d), some (.ref e), some (.ref D0), some (.bl b1), some (sv (wPts p 1 pts)), some (.ref r), some (sv (thenW (wPts p 1 pts) (wRem p x)))], ?_, ?_⟩
  · refine ⟨_, rfl, rfl, _, rfl, ?_⟩
    rw [sv_done]
    refine ite2 (fun g => ?_) (fun g => ?_)
    · have g' : wPts p 1 pts = .done := of_decide_eq_true g
      refine ⟨_, rfl, _, rfl, _, rfl, e, _, rfl, SqL.of (hs1 _ _ he4), fun l hl => ?_⟩
      have s1 := same_new hl (.lst (([x] : List Int).map V.int))
      refine ⟨p, l, [x], rfl, SqL.of upd_same, fun t ht => ⟨_, rfl, ?_⟩⟩
      refine ite2 (fun g2 => ?_) (fun g2 => ?_)
      · have e1 : wRem p x = .spot := ifW_ne fun z => (ht.mp g2) fun y hy => by rw [List.mem_singleton.mp hy]; exact z
        exact ⟨hs1.trans s1, s1 _ _ hr1, by rw [thenW_done g', e1]; rfl⟩
      · have e1 : wRem p x = .done := ifW_done (Classical.byContradiction fun z => g2 (ht.mpr fun y => z (y x (List.mem_singleton.mpr rfl))))
        exact ⟨hs1.trans s1, s1 _ _ hr1, by rw [thenW_done g', e1, g']; rfl⟩
    · have g' : ¬ wPts p 1 pts = .done := of_decide_eq_false (Bool.eq_false_iff.mpr g)
      exact iteF ⟨hs1, hr1, by rw [thenW_ne g']; rfl⟩
  clear hs1 hr1 H1
  rintro σ H1 ⟨hs1, hr1, rfl⟩
  have eRF : wRowFor p pts 2 x = thenW (thenW (wPts p 1 pts) (wRem p x)) (ifW ((pts.length : Int) < 2) .enough) := by
    unfold wRowFor
    rw [eT]
  refine ⟨fun σ H' => Same H4 H' ∧ H' r = some (.lst ([wPts p 0 pts, wPts p 1 pts].map sv)) ∧ σ = [some (.int p), some (.ref d), some (.ref e), some (.ref D0), some (.bl b1), some (sv (wPts p 1 pts)), some (.ref r), some (sv (wRowFor p pts 2 x))], ?_, ?_⟩
  · refine ⟨_, rfl, rfl, _, rfl, ?_⟩
    rw [sv_done]
    refine ite2 (fun g => ?_) (fun g => ?_)
    · have g' : thenW (wPts p 1 pts) (wRem p x) = .done := of_decide_eq_true g
      refine ⟨_, rfl, d, _, rfl, .inl (SqL.of (hs1 _ _ hd4)), _, _, rfl, rfl, _, rfl, ?_⟩
      rw [hml, htl]
      refine ite2 (fun g2 => ?_) (fun g2 => ?_)
      · have g3 : 1 < (pts.length : Int) := of_decide_eq_true g2
        exact ⟨hs1, hr1, by rw [eRF, thenW_done g', ifW_ne (by omega)]; rfl⟩
      · have g3 : ¬ 1 < (pts.length : Int) := of_decide_eq_false (Bool.eq_false_iff.mpr g2)
        exact ⟨hs1, hr1, by rw [eRF, g', thenW_done rfl, ifW_done (by omega)]⟩
    · have g' : ¬ thenW (wPts p 1 pts) (wRem p x) = .done := of_decide_eq_false (Bool.eq_false_iff.mpr g)
      exact iteF ⟨hs1, hr1, by rw [eRF, thenW_ne g']⟩
  clear hs1 hr1 H1
  rintro σ H1 ⟨hs1, hr1, rfl⟩
  refine ⟨fun σ H' => Same H4 H' ∧ H' r = some (.lst ([wPts p 0 pts, wPts p 1 pts, wRowFor p pts 2 x, wPts p 1 pts].map sv)) ∧ σ = [some (.int p), some (.ref d), some (.ref e), some (.ref D0), some (.bl b1), some (sv (wPts p 1 pts)), some (.ref r), some (sv (wRowFor p pts 2 x))], ?_, ?_⟩
  · refine ⟨_, rfl, .inl ⟨rfl, _, SqL.of hr1⟩, _, rfl, _, rfl, (by show 2 ≤ sizeLine; decide), fun l hl => ?_⟩
    have s1 := same_new hl (.lst [sv (wRowFor p pts 2 x), sv (wPts p 1 pts)])
    exact ⟨r, l, _, _, rfl, rfl, s1 _ _ hr1, upd_same, (by show 4 ≤ sizeLine; decide), (hs1.trans s1).upd hr0 _, upd_same, rfl⟩
  clear hs1 hr1 H1
  rintro σ H1 ⟨hs1, hr1, rfl⟩
  refine ⟨fun σ H' => Same H4 H' ∧ H' r = some (.lst ([wPts p 0 pts, wPts p 1 pts, wRowFor p pts 2 x, wPts p 1 pts].map sv)) ∧ σ = [some (.int p), some (.ref d), some (.ref e), some (.ref D0), some (.bl b1), some (sv (wPts p 1 pts)), some (.ref r), some (sv (ifW (cn < p) .many))], ?_, ?_⟩
  · refine ⟨(by show 2 ≤ sizeLine; decide), fun l1 hl1 => ?_⟩
    have s1 := same_new hl1 (.lst [sv .done, sv .many])
    refine ⟨_, rfl, e, _, _, _, rfl, rfl, SqL.of (s1 _ _ (hs1 _ _ he4)), rfl, _, rfl, _, _, rfl, rfl, _, rfl, l1, _, _, _, rfl, rfl, SqL.of (show upd H1 l1 _ l1 = some (.lst [sv .done, sv .many]) from upd_same), at_two _ _ _, hs1.trans s1, s1 _ _ hr1, ?_⟩
    have e1 : sv (ifW (cn < p) .many) = if decide (p ≤ cn) then sv .many else sv .done := by
      by_cases g : p ≤ cn
      · rw [decide_eq_true g, ifW_ne (by omega)]
        rfl
      · rw [decide_eq_false g, ifW_done (by omega)]
        rfl
    rw [e1]
    rfl
  clear hs1 hr1 H1
  rintro σ H1 ⟨hs1, hr1, rfl⟩
  refine ⟨fun σ H' => Same H4 H' ∧ H' r = some (.lst ([wPts p 0 pts, wPts p 1 pts, wRowFor p pts 2 x, wPts p 1 pts].map sv)) ∧ σ = [some (.int p), some (.ref d), some (.ref e), some (.ref D0), some (.bl b1), some (sv (wPts p 1 pts)), some (.ref r), some (sv (wShares p x [y] cn))], ?_, ?_⟩
  · refine ⟨_, rfl, _, rfl, _, rfl, e, _, rfl, SqL.of (hs1 _ _ he4), fun l hl => ?_⟩
    have s1 := same_new hl (.lst (([x, y] : List Int).map V.int))
    refine ⟨p, l, [x, y], rfl, SqL.of upd_same, fun t ht => ⟨_, rfl, ?_⟩⟩
    refine ite2 (fun g2 => ?_) (fun g2 => ?_)
    · have e1 : wShares p x [y] cn = .spot := by
        unfold wShares wAllRem
        rw [thenW_done eP, ifW_ne (ht.mp g2), thenW_ne (by decide)]
      exact ⟨hs1.trans s1, s1 _ _ hr1, by rw [e1]; rfl⟩
    · have e1 : wShares p x [y] cn = ifW (cn < p) .many := by
        unfold wShares wAllRem
        rw [thenW_done eP, ifW_done (Classical.byContradiction fun z => g2 (ht.mpr z)), thenW_done rfl]
      exact ⟨hs1.trans s1, s1 _ _ hr1, by rw [e1]⟩
  clear hs1 hr1 H1
  rintro σ H1 ⟨hs1, hr1, rfl⟩
  refine ⟨fun σ H' => Same H4 H' ∧ H' r = some (.lst ((duePts p pts x y cn).map sv)) ∧ σ = [some (.int p), some (.ref d), some (.ref e), some (.ref D0), some (.bl b1), some (sv (wPts p 1 pts)), some (.ref r), some (sv (wShares p x [y] cn))], ?_, ?_⟩
  · refine ⟨_, rfl, .inl ⟨rfl, _, SqL.of hr1⟩, _, rfl, r, _, _, rfl, rfl, hr1, (by show 4 < sizeLine; decide), hs1.upd hr0 _, ?_, rfl⟩
    rw [upd_same]
    unfold duePts
    rw [eT, eT]
    rfl
  rintro σ H2 ⟨hs2, hr2, rfl⟩
  exact ⟨_, rfl, q r H2 (hs4.trans hs2) hr2⟩
structure SixM (ma mb md : Nat) (H : Hp) (a b d e : Addr) (ns ms : List Int) (ts : List Addr) (pts : List (Int × Int)) (x y : Int) (cn : Nat) : Prop where
  ha : H a = some (.lst (ns.map V.int))
  hb : H b = some (.lst (ms.map V.int))
  hd : H d = some (.lst (ts.map V.ref))
  hP : Pts H ts pts
  he : H e = some (.lst (([x, y, (cn : Int)] : List Int).map V.int))
  la : ns.length ≤ ma
  lb : ms.length ≤ mb
  ld : pts.length ≤ md
  lc : cn ≤ 200
theorem SixM.same {ma mb md : Nat} {H H' : Hp} {a b d e : Addr} {ns ms : List Int} {ts : List Addr} {pts : List (Int × Int)} {x y : Int} {cn : Nat} (h : SixM ma mb md H a b d e ns ms ts pts x y cn) (s : Same H H') : SixM ma mb md H' a b d e ns ms ts pts x y cn := ⟨s _ _ h.ha, s _ _ h.hb, s _ _ h.hd, h.hP.same s, s _ _ h.he, h.la, h.lb, h.ld, h.lc⟩
theorem SixM.wide {ma mb md na nb nd : Nat} {H : Hp} {a b d e : Addr} {ns ms : List Int} {ts : List Addr} {pts : List (Int × Int)} {x y : Int} {cn : Nat} (h : SixM ma mb md H a b d e ns ms ts pts x y cn) (h1 : ma ≤ na) (h2 : mb ≤ nb) (h3 : md ≤ nd) : SixM na nb nd H a b d e ns ms ts pts x y cn := ⟨h.ha, h.hb, h.hd, h.hP, h.he, Nat.le_trans h.la h1, Nat.le_trans h.lb h2, Nat.le_trans h.ld h3, h.lc⟩
theorem SixM.six {ma mb md : Nat} {H : Hp} {a b d e : Addr} {ns ms : List Int} {ts : List Addr} {pts : List (Int × Int)} {x y : Int} {cn : Nat} (h : SixM ma mb md H a b d e ns ms ts pts x y cn) (h1 : ma ≤ 50) (h2 : mb ≤ 50) (h3 : md ≤ 50) : Six H a b d e ns ms ts pts x y cn := ⟨h.ha, h.hb, h.hd, h.hP, h.he, Nat.le_trans h.la h1, Nat.le_trans h.lb h2, Nat.le_trans h.ld h3, h.lc⟩
abbrev s_L_spoilt : Stmt := top 67
theorem sc_L_spoilt : FnScope ["_law_way", "_law_bad", "_law_prime", "_law_parts", "_law_one", "_law_two", "_law_points", "_law_numbers"] ["_law_way", "_law_bad", "_law_prime", "_law_parts"] (defScope s_L_spoilt) := ⟨rfl, rfl, rfl, by decide +kernel, rfl, by decide +kernel, by decide +kernel⟩
def spSpoilt : Sp := fun vs H Q _ => ∃ (k bad p : Int) (t : Addr) (a b d e : Addr) (ns ms : List Int) (ts : List Addr) (pts : List (Int × Int)) (x y : Int) (cn m : Nat), vs = [.int k, .int bad, .int p, .ref t] ∧ 0 < p ∧ p ≤ 200 ∧ m ≤ 40 ∧ H t = some (.tup [.ref a, .ref b, .ref d, .ref e]) ∧ SixM m m m H a b d e ns ms ts pts x y cn ∧
  ∀ (t a b d e : Addr) (ns ms : List Int) (ts : List Addr) (pts : List (Int × Int)) (x y : Int) (cn : Nat) H', Same H H' → H' t = some (.tup [.ref a, .ref b, .ref d, .ref e]) → SixM (m + 2) (m + 2) (m + 2) H' a b d e ns ms ts pts x y cn → Q (.ref t) H'
theorem ok_L_spoilt {n : Nat} {f : Addr} {fd : FuncData} (F : Fun K "_law_spoilt" "_law_spoilt" s_L_spoilt f fd) (T : Txt K mg) : FnOk P w K mg base CX0 (n + 1) f fd ["_law_way", "_law_bad", "_law_prime", "_law_parts"] spSpoilt := by
  refine F.ok sc_L_spoilt (fun vs H Q E h => ?_) (fun cdv A outer s H vs Q E hr h => ?_)
  · obtain ⟨k, bad, p, t, a, b, d, e, ns, ms, ts, pts, x, y, cn, m, rfl, _⟩ := h
    rfl
  obtain ⟨k, bad, p, t, a, b, d, e, ns, ms, ts, pts, x, y, cn, m, rfl, p0, p1, hm, hT, S, q⟩ := h
  have hu := hr.units
  refine ⟨_, (pss_cut (ps_asg (pv 3) (pg_tup rfl (pgs_cons (pg_name (i := 4) sc_L_spoilt.nd rfl (Or.inl rfl)) (pgs_cons (pg_name (i := 5) sc_L_spoilt.nd rfl (Or.inl rfl)) (pgs_cons (pg_name (i := 6) sc_L_spoilt.nd rfl (Or.inl rfl)) (pgs_cons (pg_name (i := 7) sc_L_spoilt.nd rfl (Or.inl rfl)) pgs_nil))))))
    (pss_cut (ps_if (pt_cmpR op_eqI (pv 0) pe_int (nomark _)) (pss_one (ps_set (i := 4) sc_L_spoilt.nd rfl (Or.inl rfl) (pe_op op_cat (pv 4) (pe_lst (pa_cons (pv 1) pa_nil))))) pss_nil)
    (pss_cut (ps_if (pt_cmpR op_eqI (pv 0) pe_int (nomark _)) (pss_one (ps_set (i := 5) sc_L_spoilt.nd rfl (Or.inl rfl) (pe_op op_cat (pe_lst (pa_cons (pv 1) pa_nil)) (pv 5)))) pss_nil)
    (pss_cut (ps_if (pt_cmpR op_eqI (pv 0) pe_int (nomark _)) (pss_one (ps_set (i := 7) sc_L_spoilt.nd rfl (Or.inl rfl) (pe_op op_cat (pe_lst (pa_cons (pv 1) pa_nil)) (pe_slice sl_list (pv 7) (po_some pe_int) po_none)))) pss_nil)
    (pss_cut (ps_if (pt_cmpR op_eqI (pv 0) pe_int (nomark _)) (pss_one (ps_set (i := 7) sc_L_spoilt.nd rfl (Or.inl rfl) (pe_op op_cat (pe_op op_cat (pe_slice sl_list (pv 7) po_none (po_some pe_int)) (pe_lst (pa_cons (pv 1) pa_nil))) (pe_slice sl_list (pv 7) (po_some pe_int) po_none)))) pss_nil)
    (pss_cut (ps_if (pt_cmpR op_eqI (pv 0) pe_int (nomark _)) (pss_one (ps_set (i := 6) sc_L_spoilt.nd rfl (Or.inl rfl) (pe_op op_cat (pv 6) (pe_lst (pa_cons (pe_tup (pa_cons (pv 1) (pa_cons pe_int pa_nil))) pa_nil))))) pss_nil)
    (pss_cut (ps_if (pt_cmpR op_eqI (pv 0) pe_int (nomark _)) (pss_one (ps_set (i := 6) sc_L_spoilt.nd rfl (Or.inl rfl) (pe_op op_cat (pe_lst (pa_cons (pe_tup (pa_cons pe_int (pa_cons (pv 1) pa_nil))) pa_nil)) (pv 6)))) pss_nil)
    (pss_cut (ps_if (pt_cmpR op_eqI (pv 0) pe_int (nomark _)) (pss_one (ps_set (i := 7) sc_L_spoilt.nd rfl (Or.inl rfl) (pe_op op_cat (pe_slice sl_list (pv 7) po_none (po_some pe_int)) (pe_lst (pa_cons (pv 2) pa_nil))))) pss_nil)
    (pss_cut (ps_if (pt_cmpR op_eqI (pv 0) pe_int (nomark _)) (pss_one (ps_set (i := 5) sc_L_spoilt.nd rfl (Or.inl rfl) (pe_lst pa_nil))) pss_nil)
    (pss_cut (ps_if (pt_cmpR op_eqI (pv 0) pe_int (nomark _)) (pss_one (ps_set (i := 4) sc_L_spoilt.nd rfl (Or.inl rfl) (pe_lst pa_nil))) pss_nil)
    (pss_cut (ps_if (pt_cmpR op_eqI (pv 0) pe_int (nomark _)) (pss_one (ps_set (i := 6) sc_L_spoilt.nd rfl (Or.inl rfl) (pe_lst pa_nil))) pss_nil)
    (pss_one (ps_ret (pe_tup (pa_cons (pv 4) (pa_cons (pv 5) (pa_cons (pv 6) (pa_cons (pv 7) pa_nil)))))))))))))))))), ?_⟩
  let I : Nat → Nat → Nat → St → Hp → Prop := fun ma mb md σ H' => Same H H' ∧ ∃ (a b d e : Addr) (ns ms : List Int) (ts : List Addr) (pts : List (Int × Int)) (x y : Int) (cn : Nat), σ = [some (.int k), some (.int bad), some (.int p), some (.ref t), some (.ref a), some (.ref b), some (.ref d), some (.ref e)] ∧ SixM ma mb md H' a b d e ns ms ts pts x y cn
  refine ⟨I m m m, ⟨_, rfl, t, _, rfl, SqT.of hT, rfl, _, _, rfl, _, _, rfl, _, _, rfl, _, _, rfl, rfl, Same.refl H, a, b, d, e, ns, ms, ts, pts, x, y, cn, rfl, S⟩, ?_⟩
  rintro σ H1 ⟨hs, a, b, d, e, ns, ms, ts, pts, x, y, cn, rfl, S⟩
  refine ⟨I (m + 1) (m) (m), ?_, ?_⟩
  · refine ⟨_, rfl, _, _, rfl, rfl, _, rfl, ?_⟩
    refine ite2 (fun g => ?_) (fun g => ?_)
    · refine ⟨_, rfl, _, rfl, (by show 1 ≤ sizeLine; decide), fun l hl => ?_⟩
      have s1 := same_new hl (.lst [V.int bad])
      refine ⟨a, l, _, _, rfl, rfl, s1 _ _ S.ha, upd_same, (by have := S.la; simp only [List.length_map, List.length_cons, List.length_nil, List.length_append]; exact Nat.le_of_lt (small1000 (by omega))), fun r hr => ?_⟩
      have s2 := s1.trans (same_new hr (.lst (ns.map V.int ++ [V.int bad])))
      exact ⟨hs.trans s2, r, b, d, e, ns ++ [bad], ms, ts, pts, x, y, cn, rfl, (by rw [upd_same, List.map_append]; rfl), s2 _ _ S.hb, s2 _ _ S.hd, S.hP.same s2, s2 _ _ S.he, (by have := S.la; simp; omega), S.lb, S.ld, S.lc⟩
    · exact ⟨hs, a, b, d, e, ns, ms, ts, pts, x, y, cn, rfl, S.wide (by omega) (by omega) (by omega)⟩
  rintro σ H1 ⟨hs, a, b, d, e, ns, ms, ts, pts, x, y, cn, rfl, S⟩
  refine ⟨I (m + 1) (m + 1) (m), ?_, ?_⟩
  · refine ⟨_, rfl, _, _, rfl, rfl, _, rfl, ?_⟩
    refine ite2 (fun g => ?_) (fun g => ?_)
    · refine ⟨_, rfl, (by show 1 ≤ sizeLine; decide), fun l hl => ?_⟩
      have s1 := same_new hl (.lst [V.int bad])
      refine ⟨_, rfl, l, b, _, _, rfl, rfl, upd_same, s1 _ _ S.hb, (by have := S.lb; simp only [List.length_map, List.length_cons, List.length_nil, List.length_append]; exact Nat.le_of_lt (small1000 (by omega))), fun r hr => ?_⟩
      have s2 := s1.trans (same_new hr (.lst ([V.int bad] ++ ms.map V.int)))
      exact ⟨hs.trans s2, a, r, d, e, ns, bad :: ms, ts, pts, x, y, cn, rfl, s2 _ _ S.ha, upd_same, s2 _ _ S.hd, S.hP.same s2, s2 _ _ S.he, S.la, (by have := S.lb; simp; omega), S.ld, S.lc⟩
    · exact ⟨hs, a, b, d, e, ns, ms, ts, pts, x, y, cn, rfl, S.wide (by omega) (by omega) (by omega)⟩
  rintro σ H1 ⟨hs, a, b, d, e, ns, ms, ts, pts, x, y, cn, rfl, S⟩
  refine ⟨I (m + 1) (m + 1) (m), ?_, ?_⟩
  · refine ⟨_, rfl, _, _, rfl, rfl, _, rfl, ?_⟩
    refine ite2 (fun g => ?_) (fun g => ?_)
    · refine ⟨_, rfl, (by show 1 ≤ sizeLine; decide), fun l hl => ?_⟩
      have s1 := same_new hl (.lst [V.int bad])
      refine ⟨_, rfl, _, rfl, e, _, rfl, SqL.of (s1 _ _ S.he), fun l2 hl2 => ?_⟩
      have s2 := same_new hl2 (.lst [V.int y, V.int cn])
      refine ⟨l, l2, [V.int bad], [V.int y, V.int cn], rfl, rfl, s2 _ _ upd_same, upd_same, (by show 3 ≤ sizeLine; decide), fun r hr => ?_⟩
      have s3 := s1.trans (s2.trans (same_new hr (.lst ([V.int bad] ++ [V.int y, V.int cn]))))
      exact ⟨hs.trans s3, a, b, d, r, ns, ms, ts, pts, bad, y, cn, rfl, s3 _ _ S.ha, s3 _ _ S.hb, s3 _ _ S.hd, S.hP.same s3, upd_same, S.la, S.lb, S.ld, S.lc⟩
    · exact ⟨hs, a, b, d, e, ns, ms, ts, pts, x, y, cn, rfl, S.wide (by omega) (by omega) (by omega)⟩
  rintro σ H1 ⟨hs, a, b, d, e, ns, ms, ts, pts, x, y, cn, rfl, S⟩
  refine ⟨I (m + 1) (m + 1) (m), ?_, ?_⟩
  · refine ⟨_, rfl, _, _, rfl, rfl, _, rfl, ?_⟩
    refine ite2 (fun g => ?_) (fun g => ?_)
    · refine ⟨_, rfl, _, rfl, e, _, rfl, SqL.of S.he, fun l hl => ?_⟩
      have s1 := same_new hl (.lst [V.int x])
      refine ⟨_, rfl, (by show 1 ≤ sizeLine; decide), fun l2 hl2 => ?_⟩
      have s2 := same_new hl2 (.lst [V.int bad])
      refine ⟨l, l2, [V.int x], [V.int bad], rfl, rfl, s2 _ _ upd_same, upd_same, (by show 2 ≤ sizeLine; decide), fun l3 hl3 => ?_⟩
      have s3 := s1.trans (s2.trans (same_new hl3 (.lst ([V.int x] ++ [V.int bad]))))
      refine ⟨_, rfl, _, rfl, e, _, rfl, SqL.of (s3 _ _ S.he), fun l4 hl4 => ?_⟩
      have s4 := same_new hl4 (.lst [V.int cn])
      refine ⟨l3, l4, [V.int x] ++ [V.int bad], [V.int cn], rfl, rfl, s4 _ _ upd_same, upd_same, (by show 3 ≤ sizeLine; decide), fun r hr => ?_⟩
      have s5 := s3.trans (s4.trans (same_new hr (.lst ([V.int x] ++ [V.int bad] ++ [V.int cn]))))
      exact ⟨hs.trans s5, a, b, d, r, ns, ms, ts, pts, x, bad, cn, rfl, s5 _ _ S.ha, s5 _ _ S.hb, s5 _ _ S.hd, S.hP.same s5, upd_same, S.la, S.lb, S.ld, S.lc⟩
    · exact ⟨hs, a, b, d, e, ns, ms, ts, pts, x, y, cn, rfl, S.wide (by omega) (by omega) (by omega)⟩
  rintro σ H1 ⟨hs, a, b, d, e, ns, ms, ts, pts, x, y, cn, rfl, S⟩
  refine ⟨I (m + 1) (m + 1) (m + 1), ?_, ?_⟩
  · refine ⟨_, rfl, _, _, rfl, rfl, _, rfl, ?_⟩
    refine ite2 (fun g => ?_) (fun g => ?_)
    · have htl := S.hP.len
      refine ⟨_, rfl, _, rfl, (by show 2 ≤ sizeLine; decide), fun tp htp => ⟨(by show 1 ≤ sizeLine; decide), fun l hl => ?_⟩⟩
      have s1 := same_new htp (.tup [V.int bad, V.int 1])
      have s2 := same_new hl (.lst [V.ref tp])
      refine ⟨d, l, _, _, rfl, rfl, s2 _ _ (s1 _ _ S.hd), upd_same, (by have := S.ld; simp only [List.length_map, List.length_cons, List.length_nil, List.length_append]; exact Nat.le_of_lt (small1000 (by omega))), fun r hr => ?_⟩
      have s3 := same_new hr (.lst (ts.map V.ref ++ [V.ref tp]))
      have s4 := s1.trans (s2.trans s3)
      exact ⟨hs.trans s4, a, b, r, e, ns, ms, ts ++ [tp], pts ++ [(bad, 1)], x, y, cn, rfl, s4 _ _ S.ha, s4 _ _ S.hb, (by rw [upd_same, List.map_append]; rfl), Pts.snoc (xy := (bad, 1)) (s3 _ _ (s2 _ _ upd_same)) (S.hP.same s4), s4 _ _ S.he, S.la, S.lb, (by have := S.ld; simp; omega), S.lc⟩
    · exact ⟨hs, a, b, d, e, ns, ms, ts, pts, x, y, cn, rfl, S.wide (by omega) (by omega) (by omega)⟩
  rintro σ H1 ⟨hs, a, b, d, e, ns, ms, ts, pts, x, y, cn, rfl, S⟩
  refine ⟨I (m + 1) (m + 1) (m + 2), ?_, ?_⟩
  · refine ⟨_, rfl, _, _, rfl, rfl, _, rfl, ?_⟩
    refine ite2 (fun g => ?_) (fun g => ?_)
    · have htl := S.hP.len
      refine ⟨_, rfl, (by show 2 ≤ sizeLine; decide), fun tp htp => ⟨(by show 1 ≤ sizeLine; decide), fun l hl => ?_⟩⟩
      have s1 := same_new htp (.tup [V.int 1, V.int bad])
      have s2 := same_new hl (.lst [V.ref tp])
      refine ⟨_, rfl, l, d, _, _, rfl, rfl, upd_same, s2 _ _ (s1 _ _ S.hd), (by have := S.ld; simp only [List.length_map, List.length_cons, List.length_nil, List.length_append]; exact Nat.le_of_lt (small1000 (by omega))), fun r hr => ?_⟩
      have s3 := same_new hr (.lst ([V.ref tp] ++ ts.map V.ref))
      have s4 := s1.trans (s2.trans s3)
      exact ⟨hs.trans s4, a, b, r, e, ns, ms, tp :: ts, (1, bad) :: pts, x, y, cn, rfl, s4 _ _ S.ha, s4 _ _ S.hb, upd_same, .cons (s3 _ _ (s2 _ _ upd_same)) (S.hP.same s4), s4 _ _ S.he, S.la, S.lb, (by have := S.ld; simp; omega), S.lc⟩
    · exact ⟨hs, a, b, d, e, ns, ms, ts, pts, x, y, cn, rfl, S.wide (by omega) (by omega) (by omega)⟩
  rintro σ H1 ⟨hs, a, b, d, e, ns, ms, ts, pts, x, y, cn, rfl, S⟩
  refine ⟨I (m + 1) (m + 1) (m + 2), ?_, ?_⟩
  · refine ⟨_, rfl, _, _, rfl, rfl, _, rfl, ?_⟩
    refine ite2 (fun g => ?_) (fun g => ?_)
    · refine ⟨_, rfl, _, rfl, e, _, rfl, SqL.of S.he, fun l hl => ?_⟩
      have s1 := same_new hl (.lst [V.int x, V.int y])
      refine ⟨_, rfl, (by show 1 ≤ sizeLine; decide), fun l2 hl2 => ?_⟩
      have s2 := same_new hl2 (.lst [V.int p])
      refine ⟨l, l2, [V.int x, V.int y], [V.int p], rfl, rfl, s2 _ _ upd_same, upd_same, (by show 3 ≤ sizeLine; decide), fun r hr => ?_⟩
      have s3 := s1.trans (s2.trans (same_new hr (.lst ([V.int x, V.int y] ++ [V.int p]))))
      exact ⟨hs.trans s3, a, b, d, r, ns, ms, ts, pts, x, y, p.toNat, rfl, s3 _ _ S.ha, s3 _ _ S.hb, s3 _ _ S.hd, S.hP.same s3, (by rw [upd_same, show ((p.toNat : Nat) : Int) = p by omega]; rfl), S.la, S.lb, S.ld, (by omega)⟩
    · exact ⟨hs, a, b, d, e, ns, ms, ts, pts, x, y, cn, rfl, S.wide (by omega) (by omega) (by omega)⟩
  rintro σ H1 ⟨hs, a, b, d, e, ns, ms, ts, pts, x, y, cn, rfl, S⟩
  refine ⟨I (m + 1) (m + 1) (m + 2), ?_, ?_⟩
  · refine ⟨_, rfl, _, _, rfl, rfl, _, rfl, ?_⟩
    refine ite2 (fun g => ?_) (fun g => ?_)
    · refine ⟨(by show 0 ≤ sizeLine; decide), fun l hl => ?_⟩
      have s1 := same_new hl (.lst ([] : List V))
      exact ⟨hs.trans s1, a, l, d, e, ns, [], ts, pts, x, y, cn, rfl, s1 _ _ S.ha, upd_same, s1 _ _ S.hd, S.hP.same s1, s1 _ _ S.he, S.la, (by simp), S.ld, S.lc⟩
    · exact ⟨hs, a, b, d, e, ns, ms, ts, pts, x, y, cn, rfl, S.wide (by omega) (by omega) (by omega)⟩
  rintro σ H1 ⟨hs, a, b, d, e, ns, ms, ts, pts, x, y, cn, rfl, S⟩
  refine ⟨I (m + 1) (m + 1) (m + 2), ?_, ?_⟩
  · refine ⟨_, rfl, _, _, rfl, rfl, _, rfl, ?_⟩
    refine ite2 (fun g => ?_) (fun g => ?_)
    · refine ⟨(by show 0 ≤ sizeLine; decide), fun l hl => ?_⟩
      have s1 := same_new hl (.lst ([] : List V))
      exact ⟨hs.trans s1, l, b, d, e, [], ms, ts, pts, x, y, cn, rfl, upd_same, s1 _ _ S.hb, s1 _ _ S.hd, S.hP.same s1, s1 _ _ S.he, (by simp), S.lb, S.ld, S.lc⟩
    · exact ⟨hs, a, b, d, e, ns, ms, ts, pts, x, y, cn, rfl, S.wide (by omega) (by omega) (by omega)⟩
  rintro σ H1 ⟨hs, a, b, d, e, ns, ms, ts, pts, x, y, cn, rfl, S⟩
  refine ⟨I (m + 1) (m + 1) (m + 2), ?_, ?_⟩
  · refine ⟨_, rfl, _, _, rfl, rfl, _, rfl, ?_⟩
    refine ite2 (fun g => ?_) (fun g => ?_)
    · refine ⟨(by show 0 ≤ sizeLine; decide), fun l hl => ?_⟩
      have s1 := same_new hl (.lst ([] : List V))
      exact ⟨hs.trans s1, a, b, l, e, ns, ms, [], [], x, y, cn, rfl, s1 _ _ S.ha, s1 _ _ S.hb, upd_same, .nil, s1 _ _ S.he, S.la, S.lb, (by simp), S.lc⟩
    · exact ⟨hs, a, b, d, e, ns, ms, ts, pts, x, y, cn, rfl, S.wide (by omega) (by omega) (by omega)⟩
  rintro σ H1 ⟨hs, a, b, d, e, ns, ms, ts, pts, x, y, cn, rfl, S⟩
  refine ⟨_, rfl, _, rfl, _, rfl, _, rfl, (by show 4 ≤ sizeLine; decide), fun t' ht' => ?_⟩
  have s1 := same_new ht' (.tup [V.ref a, V.ref b, V.ref d, V.ref e])
  exact q t' a b d e ns ms ts pts x y cn _ (hs.trans s1) upd_same ((S.same s1).wide (by omega) (by omega) (by omega))
theorem get_mem {ns : List Int} {k : Int} (h0 : 0 ≤ k) (h : k < (ns.length : Int)) : ns.getD k.toNat 0 ∈ ns := by
  have hk : k.toNat < ns.length := by omega
  rw [List.getD_eq_getElem?_getD, List.getElem?_eq_getElem hk]
  exact List.getElem_mem hk
abbrev s_L_short : Stmt := top 58
theorem sc_L_short : FnScope ["_law_numbers", "_law_size"] ["_law_numbers"] (defScope s_L_short) := ⟨rfl, rfl, rfl, by decide +kernel, rfl, by decide +kernel, by decide +kernel⟩
theorem ok_L_short {n : Nat} {f : Addr} {fd : FuncData} (F : Fun K "_law_short" "_law_short" s_L_short f fd) (T : Txt K mg) : FnOk P w K mg base CX0 (n + 1) f fd ["_law_numbers"] (spTrim K) := by
  refine F.ok sc_L_short (fun vs H Q E h => ?_) (fun cdv A outer s H vs Q E hr h => ?_)
  · obtain ⟨a, ns, rfl, _⟩ := h
    rfl
  obtain ⟨a, ns, rfl, hS, q⟩ := h
  refine ⟨_, (pss_cons (ps_set (i := 1) sc_L_short.nd rfl (Or.inl rfl) (pe_callB call_len_seq rfl T.len bt_len (pa_cons (pv 0) pa_nil)))
    (pss_cons (ps_while PassesOwn.never (PW.pt (pw_and (pt_cmpR op_gt (pv 1) pe_int (nomark _)) (pw_and1 (pt_cmpR op_eqI (pe_ix ix_list (pv 0) (pe_op op_sub (pv 1) pe_int) (fun _ _ => rfl)) pe_int (nomark _))))) (pss_one (ps_set (i := 1) sc_L_short.nd rfl (Or.inl rfl) (pe_op op_sub (pv 1) pe_int))))
    (pss_one (ps_ret (pe_slice sl_list (pv 0) po_none (po_some (pv 1))))))), ?_⟩
  have hl : (ns.map V.int).length = ns.length := List.length_map _
  refine ⟨_, rfl, a, _, rfl, .inl hS, ?_⟩
  have fin : ∀ (k : Int), 0 ≤ k → tl ns k.toNat = k.toNat → tl ns k.toNat = tl ns ns.length → ∀ r, H r = none → Q (.ref r) (upd H r (.lst (cutV (ns.map V.int) none (some k)))) := fun k h0 h1 h2 r hr' => by
    rw [cut_trim h0 h1 h2]
    exact q r hr'
  refine while_on (fun σ H' => H' = H ∧ ∃ k : Int, σ = [some (.ref a), some (.int k)] ∧ 0 ≤ k ∧ k ≤ (ns.length : Int) ∧ tl ns k.toNat = tl ns ns.length) (fun σ _ => match σ with | [_, some (.int k)] => k.toNat | _ => 0) ⟨rfl, _, rfl, by omega, by rw [hl]; omega, by rw [hl]; rfl⟩ ?_
  rintro σ H' ⟨rfl, k, rfl, k0, k1, hk⟩
  refine ⟨_, rfl, _, _, rfl, rfl, _, rfl, ?_⟩
  refine ite2 (fun c => ?_) (fun c => ?_)
  · have c' : 0 < k := of_decide_eq_true c
    refine ⟨_, rfl, _, rfl, _, _, rfl, rfl, a, _, _, _, rfl, rfl, hS, at_some (by omega) (by omega), _, _, rfl, rfl, _, rfl, ?_⟩
    have ek : k.toNat = (k - 1).toNat + 1 := by omega
    refine ite2 (fun d => ?_) (fun d => ?_)
    · have d' : ns.getD (k - 1).toNat 0 = 0 := of_decide_eq_true d
      refine ⟨_, wn_ok, ?_⟩
      refine ⟨_, rfl, _, _, rfl, rfl, ⟨rfl, k - 1, rfl, by omega, by omega, ?_⟩, ?_⟩
      · rw [← hk, ek, tl, if_pos d']
      · show (k - 1).toNat < k.toNat
        omega
    · have d' : ¬ ns.getD (k - 1).toNat 0 = 0 := of_decide_eq_false (Bool.eq_false_iff.mpr d)
      refine ⟨_, rfl, _, rfl, _, rfl, a, _, rfl, hS, fin k k0 ?_ hk⟩
      rw [ek, tl, if_neg d']
  · have c' : ¬ 0 < k := of_decide_eq_false (Bool.eq_false_iff.mpr c)
    have e0 : k.toNat = 0 := by omega
    refine iteF ⟨_, rfl, _, rfl, _, rfl, a, _, rfl, hS, fin k k0 ?_ hk⟩
    rw [e0]
    rfl
abbrev s_L_number_by : Stmt := top 59
theorem sc_L_number_by : FnScope ["_law_prime", "_law_cell"] ["_law_prime", "_law_cell"] (defScope s_L_number_by) := ⟨rfl, rfl, rfl, by decide +kernel, rfl, by decide +kernel, by decide +kernel⟩
def spNumBy : Sp := fun vs H Q _ => ∃ p c : Int, vs = [.int p, .int c] ∧ 0 < p ∧ ∀ v H', 0 ≤ v → v < p → Same H H' → Q (.int v) H'
theorem ok_L_number_by {n : Nat} {f : Addr} {fd : FuncData} (F : Fun K "_law_number_by" "_law_number_by" s_L_number_by f fd) (T : Txt K mg) : FnOk P w K mg base CX0 (n + 1) f fd ["_law_prime", "_law_cell"] spNumBy := by
  refine F.ok sc_L_number_by (fun vs H Q E h => ?_) (fun cdv A outer s H vs Q E hr h => ?_)
  · obtain ⟨p, c, rfl, _⟩ := h
    rfl
  obtain ⟨p, c, rfl, hp, q⟩ := h
  refine ⟨_, (pss_one (ps_ret (pe_ix ix_list (pe_lst (pa_cons (pe_op op_mod (pv 1) (pv 0)) (pa_cons (pe_op op_sub (pv 0) pe_int) (pa_cons pe_int (pa_cons (pe_op op_mod (pe_op op_fdiv (pv 1) pe_int) (pv 0)) pa_nil))))) (pe_op op_mod (pe_op op_fdiv (pv 1) pe_int) pe_int) (fun _ _ => rfl)))), ?_⟩
  refine ⟨_, rfl, _, rfl, _, _, rfl, rfl, hp, _, rfl, _, _, rfl, rfl, _, rfl, _, _, rfl, rfl, ⟨(by decide : (0 : Int) < 8), by decide⟩, _, rfl, _, _, rfl, rfl, hp, (by show 4 ≤ sizeLine; decide), fun p1 hp1 => ?_⟩
  have m0 := Int.emod_nonneg (c / 64) (show (4 : Int) ≠ 0 by decide)
  have m1 := Int.emod_lt_of_pos (c / 64) (show (0 : Int) < 4 by decide)
  refine ⟨_, rfl, _, _, rfl, rfl, ⟨(by decide : (0 : Int) < 64), by decide⟩, _, _, rfl, rfl, (show (0 : Int) < 4 by decide), p1, _, _, _, rfl, rfl, SqL.of (xs := ([c % p, p - 1, 0, c / 8 % p] : List Int).map V.int) upd_same, at_some m0 m1, ?_⟩
  have hm := get_mem (ns := [c % p, p - 1, 0, c / 8 % p]) m0 m1
  have hb : ∀ x ∈ ([c % p, p - 1, 0, c / 8 % p] : List Int), 0 ≤ x ∧ x < p := fun x hx => by
    simp only [List.mem_cons, List.not_mem_nil, or_false] at hx
    rcases hx with rfl | rfl | rfl | rfl
    · exact ⟨Int.emod_nonneg _ (by omega), Int.emod_lt_of_pos _ hp⟩
    · omega
    · omega
    · exact ⟨Int.emod_nonneg _ (by omega), Int.emod_lt_of_pos _ hp⟩
  exact q _ _ (hb _ hm).1 (hb _ hm).2 (same_new hp1 _)
abbrev s_L_row_by : Stmt := top 60
theorem sc_L_row_by : FnScope ["_law_prime", "_law_cells"] ["_law_prime", "_law_cells"] (defScope s_L_row_by) := ⟨rfl, rfl, rfl, by decide +kernel, rfl, by decide +kernel, by decide +kernel⟩
def spRowBy (K : PySem.W.Frag) : Sp := fun vs H Q _ => ∃ (p : Int) (a : Addr) (cs : List Int), vs = [.int p, .ref a] ∧ 0 < p ∧ SqL K H a (cs.map V.int) ∧ cs.length ≤ 1000 ∧
  ∀ r ns H', Row p ns → ns.length ≤ cs.length → Same H H' → H' r = some (.lst (ns.map V.int)) → Q (.ref r) H'
theorem ok_L_row_by {n : Nat} {f fs fn : Addr} {fd sd nd : FuncData} (F : Fun K "_law_row_by" "_law_row_by" s_L_row_by f fd) (T : Txt K mg) (D_L_short : Df K mg "_law_short" fs sd ["_law_numbers"]) (G_L_short : FnOk P w K mg base CX0 n fs sd ["_law_numbers"] (spTrim K))
    (D_L_number_by : Df K mg "_law_number_by" fn nd ["_law_prime", "_law_cell"]) (G_L_number_by : FnOk P w K mg base CX0 n fn nd ["_law_prime", "_law_cell"] spNumBy) : FnOk P w K mg base CX0 (n + 1) f fd ["_law_prime", "_law_cells"] (spRowBy K) := by
  refine F.ok sc_L_row_by (fun vs H Q E h => ?_) (fun cdv A outer s H vs Q E hr h => ?_)
  · obtain ⟨p, a, cs, rfl, _⟩ := h
    rfl
  obtain ⟨p, a, cs, rfl, hp, hS, hl, q⟩ := h
  refine ⟨_, (pss_one (ps_ret (pcall D_L_short G_L_short hr (pa_cons (pe_comp (N' := ["_law_cell", "_law_prime"]) (js := [none, some 0]) (compOk_of rfl) rfl (pi_list (pv 1)) (fun _ _ _ _ => (pg_name (i := 0) (show (["_law_cell", "_law_prime"] : List Str).Nodup by decide +kernel) rfl (Or.inl rfl) (Or.inr rfl))) (fun _ _ _ _ => pif_nil) (fun _ _ _ _ => (pcall D_L_number_by G_L_number_by hr (pa_cons (pv 1) (pa_cons (pv 0) pa_nil))))) pa_nil)))), ?_⟩
  refine ⟨_, rfl, a, rfl, ⟨_, hS⟩, fun D hD => ?_⟩
  refine comp_all (xs := cs.map V.int) hD (by rw [List.length_map]; exact Nat.le_of_lt (small1000 hl)) (fun _ y => ∃ i, y = .int i ∧ (0 ≤ i ∧ i < p)) (itl_go hS) ?_ ?_
  · intro x H1 R hx hs z
    obtain ⟨v, _, rfl⟩ := List.mem_map.mp hx
    exact ⟨_, rfl, _, rfl, p, v, rfl, hp, fun i H' h0 h1 hs' => z _ _ hs' ⟨i, rfl, h0, h1⟩⟩
  · intro ys H1 hF hs hDy
    obtain ⟨ns, rfl, hb⟩ := ints_of_all (p := fun i => 0 ≤ i ∧ i < p) fun y hy => by
      obtain ⟨_, _, z⟩ := Paired.all_right hF y hy
      exact z
    have hlen : ns.length = cs.length := by
      have := hF.length
      rw [List.length_map, List.length_map] at this
      exact this.symm
    refine ⟨D, ns, rfl, SqL.of hDy, fun r hr' => ?_⟩
    exact q r (trim ns) _ (trim_row hb) (Nat.le_trans (trim_le ns) (Nat.le_of_eq hlen)) (hs.trans (same_new hr' _)) upd_same
abbrev s_L_mixed : Stmt := top 68
theorem sc_L_mixed : FnScope ["_law_script"] ["_law_script"] (defScope s_L_mixed) := ⟨rfl, rfl, rfl, by decide +kernel, rfl, by decide +kernel, by decide +kernel⟩
def spMixed (K : PySem.W.Frag) : Sp := fun vs H Q _ => ∃ (a : Addr) (ns : List Int), vs = [.ref a] ∧ SqL K H a (ns.map V.int) ∧ ns.length ≤ 63 ∧
  ∀ (r : Addr) (ms : List Int) (H' : Hp), ms.length = ns.length → Same H H' → H' r = some (.lst (ms.map V.int)) → Q (.ref r) H'
theorem ok_L_mixed {n : Nat} {f : Addr} {fd : FuncData} (F : Fun K "_law_mixed" "_law_mixed" s_L_mixed f fd) (T : Txt K mg) : FnOk P w K mg base CX0 (n + 1) f fd ["_law_script"] (spMixed K) := by
  refine F.ok sc_L_mixed (fun vs H Q E h => ?_) (fun cdv A outer s H vs Q E hr h => ?_)
  · obtain ⟨a, ns, rfl, _⟩ := h
    rfl
  obtain ⟨a, ns, rfl, hS, h63, q⟩ := h
  refine ⟨_, (pss_one (ps_ret (pe_comp (N' := ["_law_k", "_law_script"]) (js := [none, some 0]) (compOk_of rfl) rfl (pi_range1 rfl T.range (pa_cons (pe_callB call_len_seq rfl T.len bt_len (pa_cons (pv 0) pa_nil)) pa_nil)) (fun _ _ _ _ => (pg_name (i := 0) (show (["_law_k", "_law_script"] : List Str).Nodup by decide +kernel) rfl (Or.inl rfl) (Or.inr rfl))) (fun _ _ _ _ => pif_nil) (fun _ _ _ _ => (pe_op op_mod (pe_op op_mul (pe_op op_add (pe_ix (r := rIxL K) ix_list (pv 1) (pv 0) (fun _ _ => rfl)) (pe_op op_mul pe_int (pv 0))) pe_int) pe_int))))), ?_⟩
  have hl : (ns.map V.int).length = ns.length := List.length_map _
  refine ⟨_, rfl, a, _, rfl, .inl hS, _, rfl, (by rw [hl]; omega), (by rw [hl]; omega), fun D hD => ?_⟩
  rw [hl]
  refine comp_all (xs := rangeV 0 ns.length) hD (by rw [rangeV_length]; exact Nat.le_of_lt (small1000 (by omega))) (fun _ y => ∃ i, y = .int i ∧ True) itr_go ?_ ?_
  · intro x H1 R hx hs z
    obtain ⟨i, hi, rfl⟩ := rangeV_mem hx
    refine ⟨_, rfl, _, rfl, a, _, _, _, rfl, rfl, hs.seq hS, at_some (by omega) (by omega), _, rfl, _, _, rfl, rfl, .inl ⟨by decide, by decide⟩, _, _, rfl, rfl, _, _, rfl, rfl, .inr ⟨by decide, by decide⟩, _, _, rfl, rfl, (show (0 : Int) < 1000003 by decide), ?_⟩
    exact z _ _ (Same.refl _) ⟨_, rfl, trivial⟩
  · intro ys H1 hF hs hDy
    obtain ⟨ms, rfl, _⟩ := ints_of_all (p := fun _ => True) fun y hy => by
      obtain ⟨_, _, z⟩ := Paired.all_right hF y hy
      exact z
    have hlen := hF.length
    rw [List.length_map, rangeV_length] at hlen
    exact q D ms _ hlen.symm hs hDy
theorem thenW_prime (b : Wd) : thenW .prime b = .prime := rfl
theorem wAll_bad {k p : Int} (ns ms : List Int) (pts : List (Int × Int)) (x y cn : Int) (h : ¬ Pr p) : wAll k p ns ms pts x y cn = .prime := by
  have e : wPr p = .prime := ifW_ne h
  simp only [wAll, wTwoW, wOther, wSplit, wRows, wWorth, wRoots, wInv, wThru, wRowFor, wShares, e, thenW_prime, ite_self]
theorem due_good (p : Int) (ns ms : List Int) (pts : List (Int × Int)) (x y cn : Int) : ∀ k : Nat, k < 14 → (dueRow p ns ms x ++ duePts p pts x y cn).getD k .done = wAll (k : Int) p ns ms pts x y cn
  | 0, _ => rfl
  | 1, _ => rfl
  | 2, _ => rfl
  | 3, _ => rfl
  | 4, _ => rfl
  | 5, _ => rfl
  | 6, _ => rfl
  | 7, _ => rfl
  | 8, _ => rfl
  | 9, _ => rfl
  | 10, _ => rfl
  | 11, _ => rfl
  | 12, _ => rfl
  | 13, _ => rfl
  | k + 14, h => absurd h (by omega)
theorem bl_same (w : Wd) : (!decide (V.bl (decide (w ≠ .done)) = V.bl (!decide (sv w = V.str "done")))) = false := by
  rw [sv_done]
  have e : decide (w ≠ .done) = !decide (w = .done) := by cases w <;> rfl
  rw [e]
  exact congrArg (!·) (decide_eq_true rfl)
theorem at_sv {DL : List Wd} {i : Nat} (h : i < DL.length) : atI (DL.map sv) (i : Int) = some (sv (DL.getD i .done)) := by
  refine atI_nat ?_
  rw [List.getElem?_map, List.getElem?_eq_getElem h, List.getD_eq_getElem?_getD, List.getElem?_eq_getElem h]
  rfl
theorem pr_four : ∀ x ∈ ([7, 13, 101, 31] : List Int), Pr x ∧ x ≤ 200 := fun x hx => by
  simp only [List.mem_cons, List.not_mem_nil, or_false] at hx
  rcases hx with rfl | rfl | rfl | rfl
  · exact ⟨pr_of (n := 7) (by decide) (by decide) (by decide +kernel), by decide⟩
  · exact ⟨pr_of (n := 13) (by decide) (by decide) (by decide +kernel), by decide⟩
  · exact ⟨pr_of (n := 101) (by decide) (by decide) (by decide +kernel), by decide⟩
  · exact ⟨pr_of (n := 31) (by decide) (by decide) (by decide +kernel), by decide⟩
theorem not_pr7 : ∀ x ∈ ([1, 0, -7, 9, 91, 1000000, 1000003] : List Int), ¬ Pr x := fun x hx z => by
  have h1 := z.lo
  have h2 := z.hi
  simp only [List.mem_cons, List.not_mem_nil, or_false] at hx
  rcases hx with rfl | rfl | rfl | rfl | rfl | rfl | rfl
  · omega
  · omega
  · omega
  · exact z.nd 3 (by decide) (by decide) (by decide)
  · exact z.nd 7 (by decide) (by decide) (by decide)
  · exact z.nd 2 (by decide) (by decide) (by decide)
  · omega
abbrev s_law : Stmt := top 70
theorem sc_law : FnScope ["_law_script", "_law_prime", "_law_one", "_law_two", "_law_points", "_law_cell", "_law_numbers", "_law_bad", "_law_more", "_law_parts", "_law_way", "_law_due", "_law_which", "_law_rows", "_law_told", "_law_caught"] ["_law_script"] (defScope s_law) := ⟨rfl, rfl, rfl, by decide +kernel, rfl, by decide +kernel, by decide +kernel⟩
def spLaw (K : PySem.W.Frag) : Sp := fun vs H Q _ => ∃ (a : Addr) (ns : List Int), vs = [.ref a] ∧ SqL K H a (ns.map V.int) ∧ ns.length ≤ 63 ∧ ∀ H', Q (.bl true) H'
theorem cut_len (ns : List Int) (a k : Nat) : ∃ cs : List Int, cutV (ns.map V.int) (some (a : Int)) (some ((a : Int) + (k : Int))) = cs.map V.int ∧ cs.length ≤ k ∧ cs.length ≤ ns.length := by
  refine ⟨(ns.drop (HT.sIx (ns.map V.int).length 0 (some (a : Int)))).take (HT.sIx (ns.map V.int).length (ns.map V.int).length (some ((a : Int) + (k : Int))) - HT.sIx (ns.map V.int).length 0 (some (a : Int))), ?_, ?_, ?_⟩
  · unfold cutV
    rw [List.map_take, List.map_drop]
  · rw [show ((a : Int) + (k : Int)) = ((a + k : Nat) : Int) by omega, HT.sIx_nat, HT.sIx_nat, List.length_take]
    omega
  · rw [List.length_take, List.length_drop]
    omega
theorem ok_law {n : Nat} {f f1 f2 f3 f4 f5 f6 f7 f8 : Addr} {fd d1 d2 d3 d4 d5 d6 d7 d8 : FuncData} (F : Fun K "law" "law" s_law f fd) (T : Txt K mg)
    (D_L_mixed : Df K mg "_law_mixed" f1 d1 ["_law_script"]) (G_L_mixed : FnOk P w K mg base CX0 n f1 d1 ["_law_script"] (spMixed K))
    (D_L_at : Df K mg "_law_at" f2 d2 ["_law_script", "_law_k"]) (G_L_at : FnOk P w K mg base CX0 n f2 d2 ["_law_script", "_law_k"] (spAt K))
    (D_L_row_by : Df K mg "_law_row_by" f3 d3 ["_law_prime", "_law_cells"]) (G_L_row_by : FnOk P w K mg base CX0 n f3 d3 ["_law_prime", "_law_cells"] (spRowBy K))
    (D_L_spoilt : Df K mg "_law_spoilt" f4 d4 ["_law_way", "_law_bad", "_law_prime", "_law_parts"]) (G_L_spoilt : FnOk P w K mg base CX0 n f4 d4 ["_law_way", "_law_bad", "_law_prime", "_law_parts"] spSpoilt)
    (D_L_row_words : Df K mg "_law_row_words" f5 d5 ["_law_prime", "_law_one", "_law_two", "_law_spot"]) (G_L_row_words : FnOk P w K mg base CX0 n f5 d5 ["_law_prime", "_law_one", "_law_two", "_law_spot"] (spRowWords K))
    (D_L_point_words : Df K mg "_law_point_words" f6 d6 ["_law_prime", "_law_points", "_law_numbers"]) (G_L_point_words : FnOk P w K mg base CX0 n f6 d6 ["_law_prime", "_law_points", "_law_numbers"] (spPtWords K))
    (D_L_said : Df K mg "_law_said" f7 d7 ["_law_which", "_law_prime", "_law_one", "_law_two", "_law_points", "_law_numbers"]) (G_L_said : FnOk P w K mg base CX0 n f7 d7 ["_law_which", "_law_prime", "_law_one", "_law_two", "_law_points", "_law_numbers"] spSaid)
    (D_L_refuses : Df K mg "_law_refuses" f8 d8 ["_law_which", "_law_prime", "_law_one", "_law_two", "_law_points", "_law_numbers"]) (G_L_refuses : FnOk P w K mg base CX0 n f8 d8 ["_law_which", "_law_prime", "_law_one", "_law_two", "_law_points", "_law_numbers"] spRefuses) :
    FnOk P w K mg base CX0 (n + 1) f fd ["_law_script"] (spLaw K) := by
  refine F.ok sc_law (fun vs H Q E h => ?_) (fun cdv A outer s H vs Q E hr h => ?_)
  · obtain ⟨a, ns, rfl, _⟩ := h
    rfl
  obtain ⟨a0, ns0, rfl, hS, h63, q⟩ := h
  have hu := hr.units
  refine ⟨_, (pss_cons (ps_set (i := 0) sc_law.nd rfl (Or.inl rfl) (pe_slice sl_list (pv 0) po_none (po_some pe_int)))
    (pss_cons (ps_set (i := 0) sc_law.nd rfl (Or.inl rfl) (pcall D_L_mixed G_L_mixed hr (pa_cons (pv 0) pa_nil)))
    (pss_cut (ps_set (i := 1) sc_law.nd rfl (Or.inl rfl) (pe_ix ix_list (pe_lst (pa_ints [(7, 0, ⟨397, 18, 397, 19⟩), (13, 0, ⟨397, 21, 397, 23⟩), (101, 0, ⟨397, 25, 397, 28⟩), (31, 0, ⟨397, 30, 397, 32⟩)])) (pe_op op_mod (pcall D_L_at G_L_at hr (pa_cons (pv 0) (pa_cons pe_int pa_nil))) pe_int) (fun _ _ => rfl)))
    (pss_cut (ps_set (i := 2) sc_law.nd rfl (Or.inl rfl) (pcall D_L_row_by G_L_row_by hr (pa_cons (pv 1) (pa_cons (pe_slice sl_list (pv 0) (po_some pe_int) (po_some pe_int)) pa_nil))))
    (pss_cut (ps_set (i := 3) sc_law.nd rfl (Or.inl rfl) (pcall D_L_row_by G_L_row_by hr (pa_cons (pv 1) (pa_cons (pe_slice sl_list (pv 0) (po_some pe_int) (po_some pe_int)) pa_nil))))
    (pss_cons (ps_set (i := 4) sc_law.nd rfl (Or.inl rfl) (pe_lst pa_nil))
    (pss_cut (ps_for PassesOwn.never rfl (pi_list (pe_slice sl_list (pv 0) (po_some pe_int) (po_some pe_int))) (pg_name (i := 5) sc_law.nd rfl (Or.inl rfl)) (pss_one (ps_expr (pe_bm PySem.F.plainAttrs_list PySem.F.slot_list_append PySem.F.type_list_append mt_append (pv 4) (pa_cons (pe_tup (pa_cons (pe_op op_add pe_int (pe_op op_mod (pv 5) pe_int)) (pa_cons (pe_op op_mod (pe_op op_fdiv (pv 5) pe_int) (pv 1)) pa_nil))) pa_nil)))))
    (pss_cut (ps_set (i := 6) sc_law.nd rfl (Or.inl rfl) (pe_lst (pa_cons (pe_op op_mod (pcall D_L_at G_L_at hr (pa_cons (pv 0) (pa_cons pe_int pa_nil))) (pv 1)) (pa_cons (pe_op op_mod (pcall D_L_at G_L_at hr (pa_cons (pv 0) (pa_cons pe_int pa_nil))) (pv 1)) (pa_cons pe_int pa_nil)))))
    (pss_cut (ps_set (i := 7) sc_law.nd rfl (Or.inl rfl) (pe_ix ix_list (pe_lst (pa_cons (pe_un un_neg pe_int) (pa_cons (pv 1) (pa_cons pe_int (pa_cons pe_int pa_nil))))) (pe_op op_mod (pe_op op_fdiv (pcall D_L_at G_L_at hr (pa_cons (pv 0) (pa_cons pe_int pa_nil))) pe_int) pe_int) (fun _ _ => rfl)))
    (pss_cut (ps_set (i := 8) sc_law.nd rfl (Or.inl rfl) (pe_op op_mod (pe_op op_fdiv (pcall D_L_at G_L_at hr (pa_cons (pv 0) (pa_cons pe_int pa_nil))) pe_int) pe_int))
    (pss_cut (ps_if (pt_cmpR op_eqI (pe_op op_mod (pe_op op_fdiv (pcall D_L_at G_L_at hr (pa_cons (pv 0) (pa_cons pe_int pa_nil))) pe_int) pe_int) pe_int (nomark _)) (pss_one (ps_set (i := 8) sc_law.nd rfl (Or.inl rfl) (pe_op op_mod (pe_op op_add (pcall D_L_at G_L_at hr (pa_cons (pv 0) (pa_cons pe_int pa_nil))) pe_int) pe_int))) pss_nil)
    (pss_cons (ps_set (i := 9) sc_law.nd rfl (Or.inl rfl) (pe_tup (pa_cons (pv 2) (pa_cons (pv 3) (pa_cons (pv 4) (pa_cons (pv 6) pa_nil))))))
    (pss_cut (ps_for PassesOwn.never rfl (pi_list (pe_lst (pa_cons (pe_op op_mod (pcall D_L_at G_L_at hr (pa_cons (pv 0) (pa_cons pe_int pa_nil))) pe_int) (pa_cons (pv 8) pa_nil)))) (pg_name (i := 10) sc_law.nd rfl (Or.inl rfl)) (pss_one (ps_set (i := 9) sc_law.nd rfl (Or.inl rfl) (pcall D_L_spoilt G_L_spoilt hr (pa_cons (pv 10) (pa_cons (pv 7) (pa_cons (pv 1) (pa_cons (pv 9) pa_nil))))))))
    (pss_cut (ps_asg (pv 9) (pg_tup rfl (pgs_cons (pg_name (i := 2) sc_law.nd rfl (Or.inl rfl)) (pgs_cons (pg_name (i := 3) sc_law.nd rfl (Or.inl rfl)) (pgs_cons (pg_name (i := 4) sc_law.nd rfl (Or.inl rfl)) (pgs_cons (pg_name (i := 6) sc_law.nd rfl (Or.inl rfl)) pgs_nil))))))
    (pss_cut (ps_set (i := 11) sc_law.nd rfl (Or.inl rfl) (pcall D_L_row_words G_L_row_words hr (pa_cons (pv 1) (pa_cons (pv 2) (pa_cons (pv 3) (pa_cons (pe_ix ix_list (pv 6) pe_int (fun _ _ => rfl)) pa_nil))))))
    (pss_cut (ps_set (i := 11) sc_law.nd rfl (Or.inl rfl) (pe_op op_cat (pv 11) (pcall D_L_point_words G_L_point_words hr (pa_cons (pv 1) (pa_cons (pv 4) (pa_cons (pv 6) pa_nil))))))
    (pss_cut (ps_if (pt_cmpR op_eqI (pe_op op_mod (pcall D_L_at G_L_at hr (pa_cons (pv 0) (pa_cons pe_int pa_nil))) pe_int) pe_int (nomark _)) (pss_cons (ps_set (i := 1) sc_law.nd rfl (Or.inl rfl) (pe_ix ix_list (pe_lst (pa_cons pe_int (pa_cons pe_int (pa_cons (pe_un un_neg pe_int) (pa_cons pe_int (pa_cons pe_int (pa_cons pe_int (pa_cons pe_int pa_nil)))))))) (pe_op op_mod (pe_op op_fdiv (pcall D_L_at G_L_at hr (pa_cons (pv 0) (pa_cons pe_int pa_nil))) pe_int) pe_int) (fun _ _ => rfl)))
    (pss_one (ps_set (i := 11) sc_law.nd rfl (Or.inl rfl) (pe_op op_rep (pe_lst (pa_cons pe_str pa_nil)) pe_int)))) pss_nil)
    (pss_cons (ps_for PassesOwn.never rfl (pi_range1 rfl T.range (pa_cons pe_int pa_nil)) (pg_name (i := 12) sc_law.nd rfl (Or.inl rfl)) (pss_cut (ps_set (i := 13) sc_law.nd rfl (Or.inl rfl) (pe_lst (pa_cons (pe_callTy call_list_of rfl T.list bt_list (pa_cons (pv 2) pa_nil)) (pa_cons (pe_callTy call_list_of rfl T.list bt_list (pa_cons (pv 3) pa_nil)) (pa_cons (pe_callTy call_list_of rfl T.list bt_list (pa_cons (pv 4) pa_nil)) (pa_cons (pe_callTy call_list_of rfl T.list bt_list (pa_cons (pv 6) pa_nil)) pa_nil))))))
    (pss_cut (ps_set (i := 14) sc_law.nd rfl (Or.inl rfl) (pcall D_L_said G_L_said hr (pa_cons (pv 12) (pa_cons (pv 1) (pa_cons (pe_ix ix_list (pv 13) pe_int (fun _ _ => rfl)) (pa_cons (pe_ix ix_list (pv 13) pe_int (fun _ _ => rfl)) (pa_cons (pe_ix ix_list (pv 13) pe_int (fun _ _ => rfl)) (pa_cons (pe_ix ix_list (pv 13) pe_int (fun _ _ => rfl)) pa_nil))))))))
    (pss_cut (ps_set (i := 15) sc_law.nd rfl (Or.inl rfl) (pcall D_L_refuses G_L_refuses hr (pa_cons (pv 12) (pa_cons (pv 1) (pa_cons (pe_ix ix_list (pv 13) pe_int (fun _ _ => rfl)) (pa_cons (pe_ix ix_list (pv 13) pe_int (fun _ _ => rfl)) (pa_cons (pe_ix ix_list (pv 13) pe_int (fun _ _ => rfl)) (pa_cons (pe_ix ix_list (pv 13) pe_int (fun _ _ => rfl)) pa_nil))))))))
    (pss_one (ps_if (PW.pt (pw_or (pt_cmpR op_ne (pv 14) (pe_ix ix_list (pv 11) (pv 12) (fun _ _ => rfl)) (nomark _)) (pw_or1 (pt_cmpR op_ne (pv 15) (pe_cmpR op_ne (pv 14) pe_str (nomark _)) (nomark _))))) (pss_one (ps_ret pe_bl)) pss_nil))))))
    (pss_one (ps_ret pe_bl)))))))))))))))))))), ?_⟩
  refine ⟨_, rfl, _, rfl, a0, _, rfl, hS, fun p0 hp0 => ?_⟩
  rw [show (100 : Int) = ((100 : Nat) : Int) from rfl, cut_take, List.take_of_length_le (by omega)]
  refine ⟨_, rfl, p0, ns0, rfl, SqL.of upd_same, h63, fun r1 sc H2 hlen hs2 hr2 => ?_⟩
  have hm63 : sc.length ≤ 63 := by omega
  have i0 := Int.emod_nonneg (sc.getD (0 : Int).toNat 0) (show (4 : Int) ≠ 0 by decide)
  have i1 := Int.emod_lt_of_pos (sc.getD (0 : Int).toNat 0) (show (0 : Int) < 4 by decide)
  refine ⟨fun σ H' => Same H2 H' ∧ ∃ p : Int, (Pr p ∧ p ≤ 200) ∧ σ = [some (.ref r1), some (.int p), none, none, none, none, none, none, none, none, none, none, none, none, none, none], ?_, ?_⟩
  · refine ⟨(by show 4 ≤ sizeLine; decide), fun q1 hq1 => ?_⟩
    have s1 := same_new hq1 (.lst (([7, 13, 101, 31] : List Int).map V.int))
    exact ⟨_, rfl, r1, sc, 0, rfl, SqL.of (s1 _ _ hr2), Int.le_refl 0, _, _, rfl, rfl, (show (0 : Int) < 4 by decide), q1, _, _, _, rfl, rfl, SqL.of (xs := ([7, 13, 101, 31] : List Int).map V.int) upd_same, at_some i0 i1, s1, _, pr_four _ (get_mem i0 i1), rfl⟩
  rintro σ H3 ⟨s3, p, ⟨hp, p200⟩, rfl⟩
  have hr3 := s3 _ _ hr2
  have hpl := hp.lo
  have hpm := hp.hi
  refine ⟨fun σ H' => Same H3 H' ∧ ∃ (a : Addr) (ns : List Int), H' a = some (.lst (ns.map V.int)) ∧ ns.length ≤ 4 ∧ σ = [some (.ref r1), some (.int p), some (.ref a), none, none, none, none, none, none, none, none, none, none, none, none, none], ?_, ?_⟩
  · refine ⟨_, rfl, _, rfl, _, rfl, _, rfl, r1, _, rfl, SqL.of hr3, fun p2 hp2 => ?_⟩
    obtain ⟨cs, e, l1, l2⟩ : ∃ cs : List Int, cutV (sc.map V.int) (some 3) (some 7) = cs.map V.int ∧ cs.length ≤ 4 ∧ cs.length ≤ sc.length := cut_len sc 3 4
    rw [e]
    have s1 := same_new hp2 (.lst (cs.map V.int))
    exact ⟨p, p2, cs, rfl, (by omega), SqL.of upd_same, (by omega), fun a ns H' _ hl hs ha => ⟨s1.trans hs, a, ns, ha, by omega, rfl⟩⟩
  rintro σ H4 ⟨s4, a, ns, ha4, la, rfl⟩
  have hr4 := s4 _ _ hr3
  refine ⟨fun σ H' => Same H4 H' ∧ ∃ (b : Addr) (ms : List Int), H' b = some (.lst (ms.map V.int)) ∧ ms.length ≤ 4 ∧ σ = [some (.ref r1), some (.int p), some (.ref a), some (.ref b), none, none, none, none, none, none, none, none, none, none, none, none], ?_, ?_⟩
  · refine ⟨_, rfl, _, rfl, _, rfl, _, rfl, r1, _, rfl, SqL.of hr4, fun p2 hp2 => ?_⟩
    obtain ⟨cs, e, l1, l2⟩ : ∃ cs : List Int, cutV (sc.map V.int) (some 7) (some 11) = cs.map V.int ∧ cs.length ≤ 4 ∧ cs.length ≤ sc.length := cut_len sc 7 4
    rw [e]
    have s1 := same_new hp2 (.lst (cs.map V.int))
    exact ⟨p, p2, cs, rfl, (by omega), SqL.of upd_same, (by omega), fun b ms H' _ hl hs hb => ⟨s1.trans hs, b, ms, hb, by omega, rfl⟩⟩
  rintro σ H5 ⟨s5, b, ms, hb5, lb, rfl⟩
  have hr5 := s5 _ _ hr4
  have ha5 := s5 _ _ ha4
  refine ⟨(by show 0 ≤ sizeLine; decide), fun d hd0 => ?_⟩
  refine ⟨fun σ H' => Same H5 H' ∧ ∃ (ts : List Addr) (pts : List (Int × Int)) (x5 : Option V), H' d = some (.lst (ts.map V.ref)) ∧ Pts H' ts pts ∧ pts.length ≤ 3 ∧ σ = [some (.ref r1), some (.int p), some (.ref a), some (.ref b), some (.ref d), x5, none, none, none, none, none, none, none, none, none, none], ?_, ?_⟩
  · have s6 := same_new hd0 (.lst ([] : List V))
    refine ⟨_, rfl, _, rfl, _, rfl, r1, _, rfl, SqL.of (s6 _ _ hr5), fun p2 hp2 => ?_⟩
    obtain ⟨cs, e, l1, l2⟩ : ∃ cs : List Int, cutV (sc.map V.int) (some 11) (some 14) = cs.map V.int ∧ cs.length ≤ 3 ∧ cs.length ≤ sc.length := cut_len sc 11 3
    rw [e]
    have hne : p2 ≠ d := fun z => by
      rw [z, upd_same] at hp2
      cases hp2
    have s7 := same_new hp2 (.lst (cs.map V.int))
    refine ⟨p2, rfl, ⟨_, SqL.of upd_same⟩, for_list (xs := cs.map V.int) (fun i σ H' => Same H5 H' ∧ H' p2 = some (.lst (cs.map V.int)) ∧ ∃ (ts : List Addr) (pts : List (Int × Int)) (x5 : Option V), H' d = some (.lst (ts.map V.ref)) ∧ Pts H' ts pts ∧ pts.length ≤ i ∧ σ = [some (.ref r1), some (.int p), some (.ref a), some (.ref b), some (.ref d), x5, none, none, none, none, none, none, none, none, none, none]) ⟨s6.trans s7, upd_same, [], [], none, s7 _ _ upd_same, .nil, Nat.le_refl 0, rfl⟩ (fun i σ H' _ h => SqL.of h.2.1) ?_ ?_⟩
    · rintro i x σ H' hx ⟨hs, h2, ts, pts, x5, hd, hP, hl, rfl⟩
      obtain ⟨v, rfl, hv⟩ := int_at hx
      have hi := (List.getElem?_eq_some_iff.mp hv).1
      refine ⟨_, rfl, .inl ⟨rfl, _, SqL.of hd⟩, _, rfl, _, _, rfl, rfl, (show (0 : Int) < 5 by decide), _, _, rfl, rfl, _, rfl, _, _, rfl, rfl, ⟨(by decide : (0 : Int) < 5), by decide⟩, _, rfl, _, _, rfl, rfl, (show (0 : Int) < p by omega), (by show 2 ≤ sizeLine; decide), fun pt hpt => ?_⟩
      have s8 := same_new hpt (.tup [.int (1 + v % 5), .int (v / 5 % p)])
      have hd8 := s8 _ _ hd
      refine ⟨d, _, _, rfl, rfl, hd8, ?_, ?_⟩
      · rw [List.length_map, hP.len]
        exact small1000 (by omega)
      · refine ⟨(hs.trans s8).upd hd0 _, ?_, ts ++ [pt], pts ++ [(1 + v % 5, v / 5 % p)], _, ?_, ?_, ?_, rfl⟩
        · rw [upd_ne hne]
          exact s8 _ _ h2
        · rw [upd_same, List.map_append]
          rfl
        · exact Pts.upd hd8 (Pts.snoc (xy := (1 + v % 5, v / 5 % p)) upd_same (Pts.same s8 hP))
        · simp
          omega
    · rintro σ H' ⟨hs, h2, ts, pts, x5, hd, hP, hl, rfl⟩
      rw [List.length_map] at hl
      exact ⟨hs, ts, pts, x5, hd, hP, by omega, rfl⟩
  rintro σ H6 ⟨s6, ts, pts, x5, hd6, hP6, ld, rfl⟩
  have hr6 := s6 _ _ hr5
  refine ⟨fun σ H' => Same H6 H' ∧ ∃ (e : Addr) (x y : Int), H' e = some (.lst (([x, y, ((1 : Nat) : Int)] : List Int).map V.int)) ∧ σ = [some (.ref r1), some (.int p), some (.ref a), some (.ref b), some (.ref d), x5, some (.ref e), none, none, none, none, none, none, none, none, none], ?_, ?_⟩
  · refine ⟨_, rfl, r1, sc, 2, rfl, SqL.of hr6, (by decide), _, rfl, _, _, rfl, rfl, (show (0 : Int) < p by omega), _, rfl, r1, sc, 14, rfl, SqL.of hr6, (by decide), _, rfl, _, _, rfl, rfl, (show (0 : Int) < p by omega), (by show 3 ≤ sizeLine; decide), fun e he => ?_⟩
    exact ⟨same_new he _, e, _, _, upd_same, rfl⟩
  rintro σ H7 ⟨s7, e, x, y, he7, rfl⟩
  have hr7 := s7 _ _ hr6
  have S7 : SixM 4 4 4 H7 a b d e ns ms ts pts x y 1 := ⟨s7 _ _ (s6 _ _ ha5), s7 _ _ (s6 _ _ hb5), s7 _ _ hd6, hP6.same s7, he7, la, lb, by omega, by decide⟩
  have k0 := Int.emod_nonneg (sc.getD (1 : Int).toNat 0 / 144) (show (4 : Int) ≠ 0 by decide)
  have k1 := Int.emod_lt_of_pos (sc.getD (1 : Int).toNat 0 / 144) (show (0 : Int) < 4 by decide)
  refine ⟨fun σ H' => Same H7 H' ∧ ∃ bad : Int, σ = [some (.ref r1), some (.int p), some (.ref a), some (.ref b), some (.ref d), x5, some (.ref e), some (.int bad), none, none, none, none, none, none, none, none], ?_, ?_⟩
  · refine ⟨_, rfl, _, rfl, (by show 4 ≤ sizeLine; decide), fun q1 hq1 => ?_⟩
    have s1 := same_new hq1 (.lst (([-1, p, 1000000000000, 0] : List Int).map V.int))
    exact ⟨_, rfl, r1, sc, 1, rfl, SqL.of (s1 _ _ hr7), (by decide), _, _, rfl, rfl, ⟨(by decide : (0 : Int) < 144), by decide⟩, _, _, rfl, rfl, (show (0 : Int) < 4 by decide), q1, _, _, _, rfl, rfl, SqL.of (xs := ([-1, p, 1000000000000, 0] : List Int).map V.int) upd_same, at_some k0 k1, s1, _, rfl⟩
  rintro σ H8 ⟨s8, bad, rfl⟩
  have hr8 := s8 _ _ hr7
  refine ⟨fun σ H' => H' = H8 ∧ ∃ more : Int, σ = [some (.ref r1), some (.int p), some (.ref a), some (.ref b), some (.ref d), x5, some (.ref e), some (.int bad), some (.int more), none, none, none, none, none, none, none], ?_, ?_⟩
  · exact ⟨_, rfl, r1, sc, 1, rfl, SqL.of hr8, (by decide), _, _, rfl, rfl, ⟨(by decide : (0 : Int) < 12), by decide⟩, _, _, rfl, rfl, (show (0 : Int) < 12 by decide), rfl, _, rfl⟩
  rintro σ H' ⟨rfl, more, rfl⟩
  refine ⟨fun σ H'' => H'' = H' ∧ ∃ more : Int, σ = [some (.ref r1), some (.int p), some (.ref a), some (.ref b), some (.ref d), x5, some (.ref e), some (.int bad), some (.int more), none, none, none, none, none, none, none], ?_, ?_⟩
  · refine ⟨_, rfl, r1, sc, 0, rfl, SqL.of hr8, (by decide), _, _, rfl, rfl, ⟨(by decide : (0 : Int) < 4), by decide⟩, _, _, rfl, rfl, (show (0 : Int) < 2 by decide), _, _, rfl, rfl, _, rfl, ?_⟩
    refine ite2 (fun _ => ?_) (fun _ => ⟨rfl, more, rfl⟩)
    exact ⟨_, rfl, r1, sc, 1, rfl, SqL.of hr8, (by decide), _, _, rfl, rfl, _, _, rfl, rfl, (show (0 : Int) < 12 by decide), rfl, _, rfl⟩
  clear more
  rintro σ H8 ⟨rfl, more, rfl⟩
  have S8 := S7.same s8
  refine ⟨_, rfl, _, rfl, _, rfl, _, rfl, (by show 4 ≤ sizeLine; decide), fun t ht => ?_⟩
  have s9 := same_new ht (.tup [V.ref a, V.ref b, V.ref d, V.ref e])
  have hT9 : upd H8 t (.tup [V.ref a, V.ref b, V.ref d, V.ref e]) t = some (.tup [V.ref a, V.ref b, V.ref d, V.ref e]) := upd_same
  have S9 := S8.same s9
  have hr9 := s9 _ _ hr8
  generalize upd H8 t (.tup [V.ref a, V.ref b, V.ref d, V.ref e]) = H9 at hT9 S9 hr9 ⊢
  refine ⟨fun σ H' => Same H9 H' ∧ ∃ (x2 x3 x4 x6 x10 : Option V) (t a b d e : Addr) (ns ms : List Int) (ts : List Addr) (pts : List (Int × Int)) (x y : Int) (cn : Nat), H' t = some (.tup [V.ref a, V.ref b, V.ref d, V.ref e]) ∧ SixM 8 8 8 H' a b d e ns ms ts pts x y cn ∧ σ = [some (.ref r1), some (.int p), x2, x3, x4, x5, x6, some (.int bad), some (.int more), some (.ref t), x10, none, none, none, none, none], ?_, ?_⟩
  · refine ⟨_, rfl, r1, sc, 1, rfl, SqL.of hr9, (by decide), _, _, rfl, rfl, (show (0 : Int) < 12 by decide), _, rfl, (by show 2 ≤ sizeLine; decide), fun pl hpl => ?_⟩
    have s10 := same_new hpl (.lst (([sc.getD (1 : Int).toNat 0 % 12, more] : List Int).map V.int))
    refine ⟨pl, rfl, ⟨_, SqL.of upd_same⟩, for_list (xs := ([sc.getD (1 : Int).toNat 0 % 12, more] : List Int).map V.int) (fun i σ H' => Same (upd H9 pl (.lst (([sc.getD (1 : Int).toNat 0 % 12, more] : List Int).map V.int))) H' ∧ ∃ (x2 x3 x4 x6 x10 : Option V) (t a b d e : Addr) (ns ms : List Int) (ts : List Addr) (pts : List (Int × Int)) (x y : Int) (cn : Nat), H' t = some (.tup [V.ref a, V.ref b, V.ref d, V.ref e]) ∧ SixM (4 + 2 * i) (4 + 2 * i) (4 + 2 * i) H' a b d e ns ms ts pts x y cn ∧ σ = [some (.ref r1), some (.int p), x2, x3, x4, x5, x6, some (.int bad), some (.int more), some (.ref t), x10, none, none, none, none, none]) ⟨Same.refl _, _, _, _, _, _, t, a, b, d, e, ns, ms, ts, pts, x, y, 1, s10 _ _ hT9, S9.same s10, rfl⟩ (fun i σ H' _ h => SqL.of (h.1 _ _ upd_same)) ?_ ?_⟩
    · rintro i u σ H' hx ⟨hs, x2, x3, x4, x6, x10, t, a, b, d, e, ns, ms, ts, pts, x, y, cn, hT, S, rfl⟩
      obtain ⟨v, rfl, hv⟩ := int_at hx
      have hi : i < 2 := (List.getElem?_eq_some_iff.mp hv).1
      exact ⟨_, rfl, _, rfl, _, rfl, _, rfl, v, bad, p, t, a, b, d, e, ns, ms, ts, pts, x, y, cn, 4 + 2 * i, rfl, (by omega), p200, (by omega), hT, S, fun t a b d e ns ms ts pts x y cn H2 hs2 hT2 S2 => ⟨hs.trans hs2, _, _, _, _, _, t, a, b, d, e, ns, ms, ts, pts, x, y, cn, hT2, S2.wide (by omega) (by omega) (by omega), rfl⟩⟩
    · rintro σ H' ⟨hs, x2, x3, x4, x6, x10, t, a, b, d, e, ns, ms, ts, pts, x, y, cn, hT, S, rfl⟩
      exact ⟨s10.trans hs, x2, x3, x4, x6, x10, t, a, b, d, e, ns, ms, ts, pts, x, y, cn, hT, S, rfl⟩
  clear S9 hT9 S8 S7 hP6 hd6 ld la lb ha4 ha5 hb5 he7
  rintro σ H10 ⟨s10, x2, x3, x4, x6, x10, t, a, b, d, e, ns, ms, ts, pts, x, y, cn, hT, S, rfl⟩
  have hr10 := s10 _ _ hr9
  refine ⟨fun σ H' => H10 = H' ∧ σ = [some (.ref r1), some (.int p), some (.ref a), some (.ref b), some (.ref d), x5, some (.ref e), some (.int bad), some (.int more), some (.ref t), x10, none, none, none, none, none], ⟨_, rfl, t, _, rfl, SqT.of hT, rfl, _, _, rfl, _, _, rfl, _, _, rfl, _, _, rfl, rfl, rfl, rfl⟩, ?_⟩
  rintro σ H' ⟨rfl, rfl⟩
  refine ⟨fun σ H' => Same H10 H' ∧ ∃ r : Addr, H' r = some (.lst ((dueRow p ns ms x).map sv)) ∧ σ = [some (.ref r1), some (.int p), some (.ref a), some (.ref b), some (.ref d), x5, some (.ref e), some (.int bad), some (.int more), some (.ref t), x10, some (.ref r), none, none, none, none], ?_, ?_⟩
  · exact ⟨_, rfl, _, rfl, _, rfl, _, rfl, e, _, _, _, rfl, rfl, SqL.of S.he, rfl, p, a, b, ns, ms, x, rfl, hp, SqL.of S.ha, SqL.of S.hb, fun r H' hs hr => ⟨hs, r, hr, rfl⟩⟩
  rintro σ H11 ⟨s11, r, hr11, rfl⟩
  have S11 := S.same s11
  refine ⟨fun σ H' => Same H11 H' ∧ ∃ r : Addr, H' r = some (.lst ((dueRow p ns ms x ++ duePts p pts x y cn).map sv)) ∧ σ = [some (.ref r1), some (.int p), some (.ref a), some (.ref b), some (.ref d), x5, some (.ref e), some (.int bad), some (.int more), some (.ref t), x10, some (.ref r), none, none, none, none], ?_, ?_⟩
  · refine ⟨_, rfl, _, rfl, _, rfl, _, rfl, p, d, e, ts, pts, x, y, cn, rfl, hp, S11.hd, S11.hP, S11.he, (by have := S11.ld; omega), fun r2 H2 hs2 hr2' => ?_⟩
    refine ⟨r, r2, _, _, rfl, rfl, hs2 _ _ hr11, hr2', (by show 14 ≤ sizeLine; decide), fun r3 hr3' => ⟨hs2.trans (same_new hr3' _), r3, ?_, rfl⟩⟩
    rw [upd_same, List.map_append]
  clear hr11 r
  rintro σ H12 ⟨s12, r, hr12, rfl⟩
  have S12 := S11.same s12
  have hq12 := s12 _ _ (s11 _ _ hr10)
  have j0 := Int.emod_nonneg (sc.getD (1 : Int).toNat 0 / 12) (show (7 : Int) ≠ 0 by decide)
  have j1 := Int.emod_lt_of_pos (sc.getD (1 : Int).toNat 0 / 12) (show (0 : Int) < 7 by decide)
  refine ⟨fun σ H' => Same H12 H' ∧ ∃ (p2 : Int) (r : Addr) (DL : List Wd), H' r = some (.lst (DL.map sv)) ∧ DL.length = 14 ∧ (∀ k : Nat, k < 14 → DL.getD k .done = wAll (k : Int) p2 ns ms pts x y cn) ∧ σ = [some (.ref r1), some (.int p2), some (.ref a), some (.ref b), some (.ref d), x5, some (.ref e), some (.int bad), some (.int more), some (.ref t), x10, some (.ref r), none, none, none, none], ?_, ?_⟩
  · refine ⟨_, rfl, r1, sc, 1, rfl, SqL.of hq12, (by decide), _, _, rfl, rfl, (show (0 : Int) < 12 by decide), _, _, rfl, rfl, _, rfl, ?_⟩
    refine ite2 (fun _ => ?_) (fun _ => ⟨Same.refl _, p, r, _, hr12, rfl, due_good p ns ms pts x y cn, rfl⟩)
    refine ⟨_, rfl, (by show 7 ≤ sizeLine; decide), fun q1 hq1 => ?_⟩
    have s1 := same_new hq1 (.lst (([1, 0, -7, 9, 91, 1000000, 1000003] : List Int).map V.int))
    refine ⟨_, rfl, r1, sc, 1, rfl, SqL.of (s1 _ _ hq12), (by decide), _, _, rfl, rfl, ⟨(by decide : (0 : Int) < 12), by decide⟩, _, _, rfl, rfl, (show (0 : Int) < 7 by decide), q1, _, _, _, rfl, rfl, SqL.of (xs := ([1, 0, -7, 9, 91, 1000000, 1000003] : List Int).map V.int) upd_same, at_some j0 j1, (by show 1 ≤ sizeLine; decide), fun l1 hl1 => ?_⟩
    have s2 := same_new hl1 (.lst [sv .prime])
    refine ⟨l1, 14, _, rfl, rfl, upd_same, (by decide), (by decide), (by show 14 ≤ sizeLine; decide), fun l2 hl2 => ?_⟩
    refine ⟨s1.trans (s2.trans (same_new hl2 _)), _, l2, List.replicate 14 .prime, ?_, rfl, fun k hk => ?_, rfl⟩
    · rw [upd_same]
      rfl
    · rw [wAll_bad _ _ _ _ _ _ (not_pr7 _ (get_mem j0 j1)), List.getD_eq_getElem?_getD, List.getElem?_replicate_of_lt hk]
      rfl
  clear hr12 r
  rintro σ H13 ⟨s13, p2, r, DL, hr13, hDL, hW, rfl⟩
  have S13 := S12.same s13
  refine ⟨14, rfl, (by decide), (by decide), ?_⟩
  rw [show (14 : Int).toNat = 14 from rfl]
  refine for_range (fun i σ H' => Same H13 H' ∧ ∃ x12 x13 x14 x15 : Option V, σ = [some (.ref r1), some (.int p2), some (.ref a), some (.ref b), some (.ref d), x5, some (.ref e), some (.int bad), some (.int more), some (.ref t), x10, some (.ref r), x12, x13, x14, x15]) ⟨Same.refl _, _, _, _, _, rfl⟩ ?_ ?_
  · rintro i σ H' hi ⟨hs, x12, x13, x14, x15, rfl⟩
    rw [Int.zero_add]
    have S14 := S13.same hs
    refine ⟨fun σ H'' => Same H' H'' ∧ ∃ (rr l1 l2 l3 l4 : Addr), H'' rr = some (.lst [.ref l1, .ref l2, .ref l3, .ref l4]) ∧ SixM 8 8 8 H'' l1 l2 l3 l4 ns ms ts pts x y cn ∧ σ = [some (.ref r1), some (.int p2), some (.ref a), some (.ref b), some (.ref d), x5, some (.ref e), some (.int bad), some (.int more), some (.ref t), x10, some (.ref r), some (.int (i : Int)), some (.ref rr), x14, x15], ?_, ?_⟩
    · refine ⟨_, rfl, a, _, rfl, .inl (SqL.of S14.ha), fun l1 h1 => ?_⟩
      have t1 := same_new h1 (.lst (ns.map V.int))
      refine ⟨_, rfl, b, _, rfl, .inl (SqL.of (t1 _ _ S14.hb)), fun l2 h2 => ?_⟩
      have t2 := same_new h2 (.lst (ms.map V.int))
      refine ⟨_, rfl, d, _, rfl, .inl (SqL.of (t2 _ _ (t1 _ _ S14.hd))), fun l3 h3 => ?_⟩
      have t3 := same_new h3 (.lst (ts.map V.ref))
      refine ⟨_, rfl, e, _, rfl, .inl (SqL.of (t3 _ _ (t2 _ _ (t1 _ _ S14.he)))), fun l4 h4 => ?_⟩
      have t4 := same_new h4 (.lst (([x, y, (cn : Int)] : List Int).map V.int))
      refine ⟨(by show 4 ≤ sizeLine; decide), fun rr hrr => ?_⟩
      have t5 := same_new hrr (.lst [V.ref l1, V.ref l2, V.ref l3, V.ref l4])
      have tt := t1.trans (t2.trans (t3.trans (t4.trans t5)))
      exact ⟨tt, rr, l1, l2, l3, l4, upd_same, ⟨t5 _ _ (t4 _ _ (t3 _ _ (t2 _ _ upd_same))), t5 _ _ (t4 _ _ (t3 _ _ upd_same)), t5 _ _ (t4 _ _ upd_same), S14.hP.same tt, t5 _ _ upd_same, S14.la, S14.lb, S14.ld, S14.lc⟩, rfl⟩
    rintro σ H14 ⟨s14, rr, l1, l2, l3, l4, hrr, S15, rfl⟩
    refine ⟨fun σ H'' => Same H14 H'' ∧ σ = [some (.ref r1), some (.int p2), some (.ref a), some (.ref b), some (.ref d), x5, some (.ref e), some (.int bad), some (.int more), some (.ref t), x10, some (.ref r), some (.int (i : Int)), some (.ref rr), some (sv (wAll (i : Int) p2 ns ms pts x y cn)), x15], ?_, ?_⟩
    · exact ⟨_, rfl, _, rfl, _, rfl, rr, _, _, _, rfl, rfl, SqL.of hrr, rfl, _, rfl, rr, _, _, _, rfl, rfl, SqL.of hrr, rfl, _, rfl, rr, _, _, _, rfl, rfl, SqL.of hrr, rfl, _, rfl, rr, _, _, _, rfl, rfl, SqL.of hrr, rfl, (i : Int), p2, l1, l2, l3, l4, ns, ms, ts, pts, x, y, cn, rfl, S15.six (by decide) (by decide) (by decide), fun H' hs => ⟨hs, rfl⟩⟩
    rintro σ H15 ⟨s15, rfl⟩
    have hrr15 := s15 _ _ hrr
    have S16 := S15.same s15
    refine ⟨fun σ H'' => Same H15 H'' ∧ σ = [some (.ref r1), some (.int p2), some (.ref a), some (.ref b), some (.ref d), x5, some (.ref e), some (.int bad), some (.int more), some (.ref t), x10, some (.ref r), some (.int (i : Int)), some (.ref rr), some (sv (wAll (i : Int) p2 ns ms pts x y cn)), some (.bl (decide (wAll (i : Int) p2 ns ms pts x y cn ≠ .done)))], ?_, ?_⟩
    · exact ⟨_, rfl, _, rfl, _, rfl, rr, _, _, _, rfl, rfl, SqL.of hrr15, rfl, _, rfl, rr, _, _, _, rfl, rfl, SqL.of hrr15, rfl, _, rfl, rr, _, _, _, rfl, rfl, SqL.of hrr15, rfl, _, rfl, rr, _, _, _, rfl, rfl, SqL.of hrr15, rfl, (i : Int), p2, l1, l2, l3, l4, ns, ms, ts, pts, x, y, cn, rfl, S16.six (by decide) (by decide) (by decide), fun H' hs => ⟨hs, rfl⟩⟩
    rintro σ H16 ⟨s16, rfl⟩
    have sA := hs.trans (s14.trans (s15.trans s16))
    refine ⟨_, rfl, _, rfl, _, rfl, r, _, _, _, rfl, rfl, SqL.of (sA _ _ hr13), at_sv (by omega), rfl, _, rfl, ?_⟩
    rw [hW i hi, decide_eq_true rfl]
    refine iteF ⟨_, rfl, _, rfl, rfl, rfl, _, rfl, ?_⟩
    exact iteB (bl_same _) ⟨sA, _, _, _, _, rfl⟩
  · rintro σ H' ⟨hs, x12, x13, x14, x15, rfl⟩
    exact q _
end
theorem all_mk {l : PySem.W.OpenLaw} {w : World} {K : PySem.W.Frag} {h : Heap} {mg : Str → Option Value} {fa f1 f2 f3 f4 f5 f6 f7 f8 f9 f10 f11 f12 f13 f14 f15 f16 f17 f18 f19 f20 f21 f22 f23 f24 f25 f26 f27 f28 f29 f30 f31 f32 f33 f34 f35 f36 f37 f38 f39 f40 f41 f42 f43 f44 f45 f46 f47 f48 f49 f50 f51 f52 f53 C1 C2 C3 C4 C5 C6 C7 C8 C9 : Addr} (X : K.In h) (G : h.Ns mainGlobals mg) (hfa : mg "law" = some (.ref fa))
    {od1 an1 od2 an2 od3 an3 od4 an4 od5 an5 od6 an6 od7 an7 od8 an8 od9 an9 od10 an10 od11 an11 od12 an12 od13 an13 od14 an14 od15 an15 od16 an16 od17 an17 od18 an18 od19 an19 od20 an20 od21 an21 od22 an22 od23 an23 od24 an24 od25 an25 od26 an26 od27 an27 od28 an28 od29 an29 od30 an30 od31 an31 od32 an32 od33 an33 od34 an34 od35 an35 od36 an36 od37 an37 od38 an38 od39 an39 od40 an40 od41 an41 od42 an42 od43 an43 od44 an44 od45 an45 od46 an46 od47 an47 od48 an48 od49 an49 od50 an50 od51 an51 od52 an52 od53 an53 : Option Addr} {sl1 sl2 sl3 sl4 sl5 sl6 sl7 sl8 sl9 sl10 sl11 sl12 sl13 sl14 sl15 sl16 sl17 sl18 sl19 sl20 sl21 sl22 sl23 sl24 sl25 sl26 sl27 sl28 sl29 sl30 sl31 sl32 sl33 sl34 sl35 sl36 sl37 sl38 sl39 sl40 sl41 sl42 sl43 sl44 sl45 sl46 sl47 sl48 sl49 sl50 sl51 sl52 sl53 : Array (Option Value)} {oc1 kV1 dc1 pm1 cd1 ct1 oc2 kV2 dc2 pm2 cd2 ct2 oc3 kV3 dc3 pm3 cd3 ct3 oc4 kV4 dc4 pm4 cd4 ct4 oc5 kV5 dc5 pm5 cd5 ct5 oc6 kV6 dc6 pm6 cd6 ct6 oc7 kV7 dc7 pm7 cd7 ct7 oc8 kV8 dc8 pm8 cd8 ct8 oc9 kV9 dc9 pm9 cd9 ct9 oc10 kV10 dc10 pm10 cd10 ct10 oc11 kV11 dc11 pm11 cd11 ct11 oc12 kV12 dc12 pm12 cd12 ct12 oc13 kV13 dc13 pm13 cd13 ct13 oc14 kV14 dc14 pm14 cd14 ct14 oc15 kV15 dc15 pm15 cd15 ct15 oc16 kV16 dc16 pm16 cd16 ct16 oc17 kV17 dc17 pm17 cd17 ct17 oc18 kV18 dc18 pm18 cd18 ct18 oc19 kV19 dc19 pm19 cd19 ct19 oc20 kV20 dc20 pm20 cd20 ct20 oc21 kV21 dc21 pm21 cd21 ct21 oc22 kV22 dc22 pm22 cd22 ct22 oc23 kV23 dc23 pm23 cd23 ct23 oc24 kV24 dc24 pm24 cd24 ct24 oc25 kV25 dc25 pm25 cd25 ct25 oc26 kV26 dc26 pm26 cd26 ct26 oc27 kV27 dc27 pm27 cd27 ct27 oc28 kV28 dc28 pm28 cd28 ct28 oc29 kV29 dc29 pm29 cd29 ct29 oc30 kV30 dc30 pm30 cd30 ct30 oc31 kV31 dc31 pm31 cd31 ct31 oc32 kV32 dc32 pm32 cd32 ct32 oc33 kV33 dc33 pm33 cd33 ct33 oc34 kV34 dc34 pm34 cd34 ct34 oc35 kV35 dc35 pm35 cd35 ct35 oc36 kV36 dc36 pm36 cd36 ct36 oc37 kV37 dc37 pm37 cd37 ct37 oc38 kV38 dc38 pm38 cd38 ct38 oc39 kV39 dc39 pm39 cd39 ct39 oc40 kV40 dc40 pm40 cd40 ct40 oc41 kV41 dc41 pm41 cd41 ct41 oc42 kV42 dc42 pm42 cd42 ct42 oc43 kV43 dc43 pm43 cd43 ct43 oc44 kV44 dc44 pm44 cd44 ct44 oc45 kV45 dc45 pm45 cd45 ct45 oc46 kV46 dc46 pm46 cd46 ct46 oc47 kV47 dc47 pm47 cd47 ct47 oc48 kV48 dc48 pm48 cd48 ct48 oc49 kV49 dc49 pm49 cd49 ct49 oc50 kV50 dc50 pm50 cd50 ct50 oc51 kV51 dc51 pm51 cd51 ct51 oc52 kV52 dc52 pm52 cd52 ct52 oc53 kV53 dc53 pm53 cd53 ct53 : Value} {t_LARGEST : Tok}
    (a1 : PySem.W.nsIn K mainGlobals "_law_mixed" = some (some (.ref f1))) (l1 : K.lookup f1 = some ⟨oc1, od1, .func (PySem.W.fnOf "_law_mixed" "_law_mixed" (defArgs s_L_mixed) (defBody s_L_mixed) (defScope s_L_mixed) .none kV1 dc1 pm1 an1 cd1 ct1), sl1⟩) (c1 : PySem.W.codeIn K cd1 "_law_mixed" = true) (k1 : PySem.W.keepIn K (.ref f1) = true)
    (a2 : PySem.W.nsIn K mainGlobals "_law_at" = some (some (.ref f2))) (l2 : K.lookup f2 = some ⟨oc2, od2, .func (PySem.W.fnOf "_law_at" "_law_at" (defArgs s_L_at) (defBody s_L_at) (defScope s_L_at) .none kV2 dc2 pm2 an2 cd2 ct2), sl2⟩) (c2 : PySem.W.codeIn K cd2 "_law_at" = true) (k2 : PySem.W.keepIn K (.ref f2) = true)
    (a3 : PySem.W.nsIn K mainGlobals "_law_short" = some (some (.ref f3))) (l3 : K.lookup f3 = some ⟨oc3, od3, .func (PySem.W.fnOf "_law_short" "_law_short" (defArgs s_L_short) (defBody s_L_short) (defScope s_L_short) .none kV3 dc3 pm3 an3 cd3 ct3), sl3⟩) (c3 : PySem.W.codeIn K cd3 "_law_short" = true) (k3 : PySem.W.keepIn K (.ref f3) = true)
    (a4 : PySem.W.nsIn K mainGlobals "_law_number_by" = some (some (.ref f4))) (l4 : K.lookup f4 = some ⟨oc4, od4, .func (PySem.W.fnOf "_law_number_by" "_law_number_by" (defArgs s_L_number_by) (defBody s_L_number_by) (defScope s_L_number_by) .none kV4 dc4 pm4 an4 cd4 ct4), sl4⟩) (c4 : PySem.W.codeIn K cd4 "_law_number_by" = true) (k4 : PySem.W.keepIn K (.ref f4) = true)
    (a5 : PySem.W.nsIn K mainGlobals "_law_row_by" = some (some (.ref f5))) (l5 : K.lookup f5 = some ⟨oc5, od5, .func (PySem.W.fnOf "_law_row_by" "_law_row_by" (defArgs s_L_row_by) (defBody s_L_row_by) (defScope s_L_row_by) .none kV5 dc5 pm5 an5 cd5 ct5), sl5⟩) (c5 : PySem.W.codeIn K cd5 "_law_row_by" = true) (k5 : PySem.W.keepIn K (.ref f5) = true)
    (a6 : PySem.W.nsIn K mainGlobals "_law_spoilt" = some (some (.ref f6))) (l6 : K.lookup f6 = some ⟨oc6, od6, .func (PySem.W.fnOf "_law_spoilt" "_law_spoilt" (defArgs s_L_spoilt) (defBody s_L_spoilt) (defScope s_L_spoilt) .none kV6 dc6 pm6 an6 cd6 ct6), sl6⟩) (c6 : PySem.W.codeIn K cd6 "_law_spoilt" = true) (k6 : PySem.W.keepIn K (.ref f6) = true)
    (a7 : PySem.W.nsIn K mainGlobals "_law_any_bad" = some (some (.ref f7))) (l7 : K.lookup f7 = some ⟨oc7, od7, .func (PySem.W.fnOf "_law_any_bad" "_law_any_bad" (defArgs s_L_any_bad) (defBody s_L_any_bad) (defScope s_L_any_bad) .none kV7 dc7 pm7 an7 cd7 ct7), sl7⟩) (c7 : PySem.W.codeIn K cd7 "_law_any_bad" = true) (k7 : PySem.W.keepIn K (.ref f7) = true)
    (a8 : PySem.W.nsIn K mainGlobals "_law_row_words" = some (some (.ref f8))) (l8 : K.lookup f8 = some ⟨oc8, od8, .func (PySem.W.fnOf "_law_row_words" "_law_row_words" (defArgs s_L_row_words) (defBody s_L_row_words) (defScope s_L_row_words) .none kV8 dc8 pm8 an8 cd8 ct8), sl8⟩) (c8 : PySem.W.codeIn K cd8 "_law_row_words" = true) (k8 : PySem.W.keepIn K (.ref f8) = true)
    (a9 : PySem.W.nsIn K mainGlobals "_law_point_words" = some (some (.ref f9))) (l9 : K.lookup f9 = some ⟨oc9, od9, .func (PySem.W.fnOf "_law_point_words" "_law_point_words" (defArgs s_L_point_words) (defBody s_L_point_words) (defScope s_L_point_words) .none kV9 dc9 pm9 an9 cd9 ct9), sl9⟩) (c9 : PySem.W.codeIn K cd9 "_law_point_words" = true) (k9 : PySem.W.keepIn K (.ref f9) = true)
    (a10 : PySem.W.nsIn K mainGlobals "is_prime" = some (some (.ref f10))) (l10 : K.lookup f10 = some ⟨oc10, od10, .func (PySem.W.fnOf "is_prime" "is_prime" (defArgs s_is_prime) (defBody s_is_prime) (defScope s_is_prime) .none kV10 dc10 pm10 an10 cd10 ct10), sl10⟩) (c10 : PySem.W.codeIn K cd10 "is_prime" = true) (k10 : PySem.W.keepIn K (.ref f10) = true)
    (a11 : PySem.W.nsIn K mainGlobals "check_prime" = some (some (.ref f11))) (l11 : K.lookup f11 = some ⟨oc11, od11, .func (PySem.W.fnOf "check_prime" "check_prime" (defArgs s_check_prime) (defBody s_check_prime) (defScope s_check_prime) .none kV11 dc11 pm11 an11 cd11 ct11), sl11⟩) (c11 : PySem.W.codeIn K cd11 "check_prime" = true) (k11 : PySem.W.keepIn K (.ref f11) = true)
    (a12 : PySem.W.nsIn K mainGlobals "is_remainder" = some (some (.ref f12))) (l12 : K.lookup f12 = some ⟨oc12, od12, .func (PySem.W.fnOf "is_remainder" "is_remainder" (defArgs s_is_remainder) (defBody s_is_remainder) (defScope s_is_remainder) .none kV12 dc12 pm12 an12 cd12 ct12), sl12⟩) (c12 : PySem.W.codeIn K cd12 "is_remainder" = true) (k12 : PySem.W.keepIn K (.ref f12) = true)
    (a13 : PySem.W.nsIn K mainGlobals "check_row" = some (some (.ref f13))) (l13 : K.lookup f13 = some ⟨oc13, od13, .func (PySem.W.fnOf "check_row" "check_row" (defArgs s_check_row) (defBody s_check_row) (defScope s_check_row) .none kV13 dc13 pm13 an13 cd13 ct13), sl13⟩) (c13 : PySem.W.codeIn K cd13 "check_row" = true) (k13 : PySem.W.keepIn K (.ref f13) = true)
    (a14 : PySem.W.nsIn K mainGlobals "check_rows" = some (some (.ref f14))) (l14 : K.lookup f14 = some ⟨oc14, od14, .func (PySem.W.fnOf "check_rows" "check_rows" (defArgs s_check_rows) (defBody s_check_rows) (defScope s_check_rows) .none kV14 dc14 pm14 an14 cd14 ct14), sl14⟩) (c14 : PySem.W.codeIn K cd14 "check_rows" = true) (k14 : PySem.W.keepIn K (.ref f14) = true)
    (a15 : PySem.W.nsIn K mainGlobals "trimmed" = some (some (.ref f15))) (l15 : K.lookup f15 = some ⟨oc15, od15, .func (PySem.W.fnOf "trimmed" "trimmed" (defArgs s_trimmed) (defBody s_trimmed) (defScope s_trimmed) .none kV15 dc15 pm15 an15 cd15 ct15), sl15⟩) (c15 : PySem.W.codeIn K cd15 "trimmed" = true) (k15 : PySem.W.keepIn K (.ref f15) = true)
    (a16 : PySem.W.nsIn K mainGlobals "number_at" = some (some (.ref f16))) (l16 : K.lookup f16 = some ⟨oc16, od16, .func (PySem.W.fnOf "number_at" "number_at" (defArgs s_number_at) (defBody s_number_at) (defScope s_number_at) .none kV16 dc16 pm16 an16 cd16 ct16), sl16⟩) (c16 : PySem.W.codeIn K cd16 "number_at" = true) (k16 : PySem.W.keepIn K (.ref f16) = true)
    (a17 : PySem.W.nsIn K mainGlobals "sum_of" = some (some (.ref f17))) (l17 : K.lookup f17 = some ⟨oc17, od17, .func (PySem.W.fnOf "sum_of" "sum_of" (defArgs s_sum_of) (defBody s_sum_of) (defScope s_sum_of) .none kV17 dc17 pm17 an17 cd17 ct17), sl17⟩) (c17 : PySem.W.codeIn K cd17 "sum_of" = true) (k17 : PySem.W.keepIn K (.ref f17) = true)
    (a18 : PySem.W.nsIn K mainGlobals "added" = some (some (.ref f18))) (l18 : K.lookup f18 = some ⟨oc18, od18, .func (PySem.W.fnOf "added" "added" (defArgs s_added) (defBody s_added) (defScope s_added) .none kV18 dc18 pm18 an18 cd18 ct18), sl18⟩) (c18 : PySem.W.codeIn K cd18 "added" = true) (k18 : PySem.W.keepIn K (.ref f18) = true)
    (a19 : PySem.W.nsIn K mainGlobals "difference_of" = some (some (.ref f19))) (l19 : K.lookup f19 = some ⟨oc19, od19, .func (PySem.W.fnOf "difference_of" "difference_of" (defArgs s_difference_of) (defBody s_difference_of) (defScope s_difference_of) .none kV19 dc19 pm19 an19 cd19 ct19), sl19⟩) (c19 : PySem.W.codeIn K cd19 "difference_of" = true) (k19 : PySem.W.keepIn K (.ref f19) = true)
    (a20 : PySem.W.nsIn K mainGlobals "lessened" = some (some (.ref f20))) (l20 : K.lookup f20 = some ⟨oc20, od20, .func (PySem.W.fnOf "lessened" "lessened" (defArgs s_lessened) (defBody s_lessened) (defScope s_lessened) .none kV20 dc20 pm20 an20 cd20 ct20), sl20⟩) (c20 : PySem.W.codeIn K cd20 "lessened" = true) (k20 : PySem.W.keepIn K (.ref f20) = true)
    (a21 : PySem.W.nsIn K mainGlobals "product_of" = some (some (.ref f21))) (l21 : K.lookup f21 = some ⟨oc21, od21, .func (PySem.W.fnOf "product_of" "product_of" (defArgs s_product_of) (defBody s_product_of) (defScope s_product_of) .none kV21 dc21 pm21 an21 cd21 ct21), sl21⟩) (c21 : PySem.W.codeIn K cd21 "product_of" = true) (k21 : PySem.W.keepIn K (.ref f21) = true)
    (a22 : PySem.W.nsIn K mainGlobals "multiplied" = some (some (.ref f22))) (l22 : K.lookup f22 = some ⟨oc22, od22, .func (PySem.W.fnOf "multiplied" "multiplied" (defArgs s_multiplied) (defBody s_multiplied) (defScope s_multiplied) .none kV22 dc22 pm22 an22 cd22 ct22), sl22⟩) (c22 : PySem.W.codeIn K cd22 "multiplied" = true) (k22 : PySem.W.keepIn K (.ref f22) = true)
    (a23 : PySem.W.nsIn K mainGlobals "inverse_of" = some (some (.ref f23))) (l23 : K.lookup f23 = some ⟨oc23, od23, .func (PySem.W.fnOf "inverse_of" "inverse_of" (defArgs s_inverse_of) (defBody s_inverse_of) (defScope s_inverse_of) .none kV23 dc23 pm23 an23 cd23 ct23), sl23⟩) (c23 : PySem.W.codeIn K cd23 "inverse_of" = true) (k23 : PySem.W.keepIn K (.ref f23) = true)
    (a24 : PySem.W.nsIn K mainGlobals "parts_of" = some (some (.ref f24))) (l24 : K.lookup f24 = some ⟨oc24, od24, .func (PySem.W.fnOf "parts_of" "parts_of" (defArgs s_parts_of) (defBody s_parts_of) (defScope s_parts_of) .none kV24 dc24 pm24 an24 cd24 ct24), sl24⟩) (c24 : PySem.W.codeIn K cd24 "parts_of" = true) (k24 : PySem.W.keepIn K (.ref f24) = true)
    (a25 : PySem.W.nsIn K mainGlobals "split" = some (some (.ref f25))) (l25 : K.lookup f25 = some ⟨oc25, od25, .func (PySem.W.fnOf "split" "split" (defArgs s_split) (defBody s_split) (defScope s_split) .none kV25 dc25 pm25 an25 cd25 ct25), sl25⟩) (c25 : PySem.W.codeIn K cd25 "split" = true) (k25 : PySem.W.keepIn K (.ref f25) = true)
    (a26 : PySem.W.nsIn K mainGlobals "multiple_of" = some (some (.ref f26))) (l26 : K.lookup f26 = some ⟨oc26, od26, .func (PySem.W.fnOf "multiple_of" "multiple_of" (defArgs s_multiple_of) (defBody s_multiple_of) (defScope s_multiple_of) .none kV26 dc26 pm26 an26 cd26 ct26), sl26⟩) (c26 : PySem.W.codeIn K cd26 "multiple_of" = true) (k26 : PySem.W.keepIn K (.ref f26) = true)
    (a27 : PySem.W.nsIn K mainGlobals "common_of" = some (some (.ref f27))) (l27 : K.lookup f27 = some ⟨oc27, od27, .func (PySem.W.fnOf "common_of" "common_of" (defArgs s_common_of) (defBody s_common_of) (defScope s_common_of) .none kV27 dc27 pm27 an27 cd27 ct27), sl27⟩) (c27 : PySem.W.codeIn K cd27 "common_of" = true) (k27 : PySem.W.keepIn K (.ref f27) = true)
    (a28 : PySem.W.nsIn K mainGlobals "common" = some (some (.ref f28))) (l28 : K.lookup f28 = some ⟨oc28, od28, .func (PySem.W.fnOf "common" "common" (defArgs s_common) (defBody s_common) (defScope s_common) .none kV28 dc28 pm28 an28 cd28 ct28), sl28⟩) (c28 : PySem.W.codeIn K cd28 "common" = true) (k28 : PySem.W.keepIn K (.ref f28) = true)
    (a29 : PySem.W.nsIn K mainGlobals "divides" = some (some (.ref f29))) (l29 : K.lookup f29 = some ⟨oc29, od29, .func (PySem.W.fnOf "divides" "divides" (defArgs s_divides) (defBody s_divides) (defScope s_divides) .none kV29 dc29 pm29 an29 cd29 ct29), sl29⟩) (c29 : PySem.W.codeIn K cd29 "divides" = true) (k29 : PySem.W.keepIn K (.ref f29) = true)
    (a30 : PySem.W.nsIn K mainGlobals "_law_two_way" = some (some (.ref f30))) (l30 : K.lookup f30 = some ⟨oc30, od30, .func (PySem.W.fnOf "_law_two_way" "_law_two_way" (defArgs s_L_two_way) (defBody s_L_two_way) (defScope s_L_two_way) .none kV30 dc30 pm30 an30 cd30 ct30), sl30⟩) (c30 : PySem.W.codeIn K cd30 "_law_two_way" = true) (k30 : PySem.W.keepIn K (.ref f30) = true)
    (a31 : PySem.W.nsIn K mainGlobals "check_remainder" = some (some (.ref f31))) (l31 : K.lookup f31 = some ⟨oc31, od31, .func (PySem.W.fnOf "check_remainder" "check_remainder" (defArgs s_check_remainder) (defBody s_check_remainder) (defScope s_check_remainder) .none kV31 dc31 pm31 an31 cd31 ct31), sl31⟩) (c31 : PySem.W.codeIn K cd31 "check_remainder" = true) (k31 : PySem.W.keepIn K (.ref f31) = true)
    (a32 : PySem.W.nsIn K mainGlobals "worth_of" = some (some (.ref f32))) (l32 : K.lookup f32 = some ⟨oc32, od32, .func (PySem.W.fnOf "worth_of" "worth_of" (defArgs s_worth_of) (defBody s_worth_of) (defScope s_worth_of) .none kV32 dc32 pm32 an32 cd32 ct32), sl32⟩) (c32 : PySem.W.codeIn K cd32 "worth_of" = true) (k32 : PySem.W.keepIn K (.ref f32) = true)
    (a33 : PySem.W.nsIn K mainGlobals "worth" = some (some (.ref f33))) (l33 : K.lookup f33 = some ⟨oc33, od33, .func (PySem.W.fnOf "worth" "worth" (defArgs s_worth) (defBody s_worth) (defScope s_worth) .none kV33 dc33 pm33 an33 cd33 ct33), sl33⟩) (c33 : PySem.W.codeIn K cd33 "worth" = true) (k33 : PySem.W.keepIn K (.ref f33) = true)
    (a34 : PySem.W.nsIn K mainGlobals "power_of" = some (some (.ref f34))) (l34 : K.lookup f34 = some ⟨oc34, od34, .func (PySem.W.fnOf "power_of" "power_of" (defArgs s_power_of) (defBody s_power_of) (defScope s_power_of) .none kV34 dc34 pm34 an34 cd34 ct34), sl34⟩) (c34 : PySem.W.codeIn K cd34 "power_of" = true) (k34 : PySem.W.keepIn K (.ref f34) = true)
    (a35 : PySem.W.nsIn K mainGlobals "once_each_of" = some (some (.ref f35))) (l35 : K.lookup f35 = some ⟨oc35, od35, .func (PySem.W.fnOf "once_each_of" "once_each_of" (defArgs s_once_each_of) (defBody s_once_each_of) (defScope s_once_each_of) .none kV35 dc35 pm35 an35 cd35 ct35), sl35⟩) (c35 : PySem.W.codeIn K cd35 "once_each_of" = true) (k35 : PySem.W.keepIn K (.ref f35) = true)
    (a36 : PySem.W.nsIn K mainGlobals "halves_of" = some (some (.ref f36))) (l36 : K.lookup f36 = some ⟨oc36, od36, .func (PySem.W.fnOf "halves_of" "halves_of" (defArgs s_halves_of) (defBody s_halves_of) (defScope s_halves_of) .none kV36 dc36 pm36 an36 cd36 ct36), sl36⟩) (c36 : PySem.W.codeIn K cd36 "halves_of" = true) (k36 : PySem.W.keepIn K (.ref f36) = true)
    (a37 : PySem.W.nsIn K mainGlobals "spots_of" = some (some (.ref f37))) (l37 : K.lookup f37 = some ⟨oc37, od37, .func (PySem.W.fnOf "spots_of" "spots_of" (defArgs s_spots_of) (defBody s_spots_of) (defScope s_spots_of) .none kV37 dc37 pm37 an37 cd37 ct37), sl37⟩) (c37 : PySem.W.codeIn K cd37 "spots_of" = true) (k37 : PySem.W.keepIn K (.ref f37) = true)
    (a38 : PySem.W.nsIn K mainGlobals "nought_at" = some (some (.ref f38))) (l38 : K.lookup f38 = some ⟨oc38, od38, .func (PySem.W.fnOf "nought_at" "nought_at" (defArgs s_nought_at) (defBody s_nought_at) (defScope s_nought_at) .none kV38 dc38 pm38 an38 cd38 ct38), sl38⟩) (c38 : PySem.W.codeIn K cd38 "nought_at" = true) (k38 : PySem.W.keepIn K (.ref f38) = true)
    (a39 : PySem.W.nsIn K mainGlobals "roots" = some (some (.ref f39))) (l39 : K.lookup f39 = some ⟨oc39, od39, .func (PySem.W.fnOf "roots" "roots" (defArgs s_roots) (defBody s_roots) (defScope s_roots) .none kV39 dc39 pm39 an39 cd39 ct39), sl39⟩) (c39 : PySem.W.codeIn K cd39 "roots" = true) (k39 : PySem.W.keepIn K (.ref f39) = true)
    (a40 : PySem.W.nsIn K mainGlobals "inverse" = some (some (.ref f40))) (l40 : K.lookup f40 = some ⟨oc40, od40, .func (PySem.W.fnOf "inverse" "inverse" (defArgs s_inverse) (defBody s_inverse) (defScope s_inverse) .none kV40 dc40 pm40 an40 cd40 ct40), sl40⟩) (c40 : PySem.W.codeIn K cd40 "inverse" = true) (k40 : PySem.W.keepIn K (.ref f40) = true)
    (a41 : PySem.W.nsIn K mainGlobals "check_points" = some (some (.ref f41))) (l41 : K.lookup f41 = some ⟨oc41, od41, .func (PySem.W.fnOf "check_points" "check_points" (defArgs s_check_points) (defBody s_check_points) (defScope s_check_points) .none kV41 dc41 pm41 an41 cd41 ct41), sl41⟩) (c41 : PySem.W.codeIn K cd41 "check_points" = true) (k41 : PySem.W.keepIn K (.ref f41) = true)
    (a42 : PySem.W.nsIn K mainGlobals "led_through" = some (some (.ref f42))) (l42 : K.lookup f42 = some ⟨oc42, od42, .func (PySem.W.fnOf "led_through" "led_through" (defArgs s_led_through) (defBody s_led_through) (defScope s_led_through) .none kV42 dc42 pm42 an42 cd42 ct42), sl42⟩) (c42 : PySem.W.codeIn K cd42 "led_through" = true) (k42 : PySem.W.keepIn K (.ref f42) = true)
    (a43 : PySem.W.nsIn K mainGlobals "rows_of" = some (some (.ref f43))) (l43 : K.lookup f43 = some ⟨oc43, od43, .func (PySem.W.fnOf "rows_of" "rows_of" (defArgs s_rows_of) (defBody s_rows_of) (defScope s_rows_of) .none kV43 dc43 pm43 an43 cd43 ct43), sl43⟩) (c43 : PySem.W.codeIn K cd43 "rows_of" = true) (k43 : PySem.W.keepIn K (.ref f43) = true)
    (a44 : PySem.W.nsIn K mainGlobals "through" = some (some (.ref f44))) (l44 : K.lookup f44 = some ⟨oc44, od44, .func (PySem.W.fnOf "through" "through" (defArgs s_through) (defBody s_through) (defScope s_through) .none kV44 dc44 pm44 an44 cd44 ct44), sl44⟩) (c44 : PySem.W.codeIn K cd44 "through" = true) (k44 : PySem.W.keepIn K (.ref f44) = true)
    (a45 : PySem.W.nsIn K mainGlobals "check_shares" = some (some (.ref f45))) (l45 : K.lookup f45 = some ⟨oc45, od45, .func (PySem.W.fnOf "check_shares" "check_shares" (defArgs s_check_shares) (defBody s_check_shares) (defScope s_check_shares) .none kV45 dc45 pm45 an45 cd45 ct45), sl45⟩) (c45 : PySem.W.codeIn K cd45 "check_shares" = true) (k45 : PySem.W.keepIn K (.ref f45) = true)
    (a46 : PySem.W.nsIn K mainGlobals "secret_by" = some (some (.ref f46))) (l46 : K.lookup f46 = some ⟨oc46, od46, .func (PySem.W.fnOf "secret_by" "secret_by" (defArgs s_secret_by) (defBody s_secret_by) (defScope s_secret_by) .none kV46 dc46 pm46 an46 cd46 ct46), sl46⟩) (c46 : PySem.W.codeIn K cd46 "secret_by" = true) (k46 : PySem.W.keepIn K (.ref f46) = true)
    (a47 : PySem.W.nsIn K mainGlobals "row_for" = some (some (.ref f47))) (l47 : K.lookup f47 = some ⟨oc47, od47, .func (PySem.W.fnOf "row_for" "row_for" (defArgs s_row_for) (defBody s_row_for) (defScope s_row_for) .none kV47 dc47 pm47 an47 cd47 ct47), sl47⟩) (c47 : PySem.W.codeIn K cd47 "row_for" = true) (k47 : PySem.W.keepIn K (.ref f47) = true)
    (a48 : PySem.W.nsIn K mainGlobals "first_off" = some (some (.ref f48))) (l48 : K.lookup f48 = some ⟨oc48, od48, .func (PySem.W.fnOf "first_off" "first_off" (defArgs s_first_off) (defBody s_first_off) (defScope s_first_off) .none kV48 dc48 pm48 an48 cd48 ct48), sl48⟩) (c48 : PySem.W.codeIn K cd48 "first_off" = true) (k48 : PySem.W.keepIn K (.ref f48) = true)
    (a49 : PySem.W.nsIn K mainGlobals "shares_of" = some (some (.ref f49))) (l49 : K.lookup f49 = some ⟨oc49, od49, .func (PySem.W.fnOf "shares_of" "shares_of" (defArgs s_shares_of) (defBody s_shares_of) (defScope s_shares_of) .none kV49 dc49 pm49 an49 cd49 ct49), sl49⟩) (c49 : PySem.W.codeIn K cd49 "shares_of" = true) (k49 : PySem.W.keepIn K (.ref f49) = true)
    (a50 : PySem.W.nsIn K mainGlobals "_law_other_way" = some (some (.ref f50))) (l50 : K.lookup f50 = some ⟨oc50, od50, .func (PySem.W.fnOf "_law_other_way" "_law_other_way" (defArgs s_L_other_way) (defBody s_L_other_way) (defScope s_L_other_way) .none kV50 dc50 pm50 an50 cd50 ct50), sl50⟩) (c50 : PySem.W.codeIn K cd50 "_law_other_way" = true) (k50 : PySem.W.keepIn K (.ref f50) = true)
    (a51 : PySem.W.nsIn K mainGlobals "_law_said" = some (some (.ref f51))) (l51 : K.lookup f51 = some ⟨oc51, od51, .func (PySem.W.fnOf "_law_said" "_law_said" (defArgs s_L_said) (defBody s_L_said) (defScope s_L_said) .none kV51 dc51 pm51 an51 cd51 ct51), sl51⟩) (c51 : PySem.W.codeIn K cd51 "_law_said" = true) (k51 : PySem.W.keepIn K (.ref f51) = true)
    (a52 : PySem.W.nsIn K mainGlobals "_law_refuses" = some (some (.ref f52))) (l52 : K.lookup f52 = some ⟨oc52, od52, .func (PySem.W.fnOf "_law_refuses" "_law_refuses" (defArgs s_L_refuses) (defBody s_L_refuses) (defScope s_L_refuses) .none kV52 dc52 pm52 an52 cd52 ct52), sl52⟩) (c52 : PySem.W.codeIn K cd52 "_law_refuses" = true) (k52 : PySem.W.keepIn K (.ref f52) = true)
    (a53 : PySem.W.nsIn K mainGlobals "law" = some (some (.ref f53))) (l53 : K.lookup f53 = some ⟨oc53, od53, .func (PySem.W.fnOf "law" "law" (defArgs s_law) (defBody s_law) (defScope s_law) .none kV53 dc53 pm53 an53 cd53 ct53), sl53⟩) (c53 : PySem.W.codeIn K cd53 "law" = true) (k53 : PySem.W.keepIn K (.ref f53) = true)
    (z_len : PySem.W.nsIn K mainGlobals "len" = some none)
    (z_range : PySem.W.nsIn K mainGlobals "range" = some none)
    (z_isinstance : PySem.W.nsIn K mainGlobals "isinstance" = some none)
    (z_int : PySem.W.nsIn K mainGlobals "int" = some none)
    (z_bool : PySem.W.nsIn K mainGlobals "bool" = some none)
    (z_list : PySem.W.nsIn K mainGlobals "list" = some none)
    (z_tuple : PySem.W.nsIn K mainGlobals "tuple" = some none)
    (z_str : PySem.W.nsIn K mainGlobals "str" = some none)
    (z_enumerate : PySem.W.nsIn K mainGlobals "enumerate" = some none)
    (z_reversed : PySem.W.nsIn K mainGlobals "reversed" = some none)
    (z_max : PySem.W.nsIn K mainGlobals "max" = some none)
    (z_min : PySem.W.nsIn K mainGlobals "min" = some none)
    (z_set : PySem.W.nsIn K mainGlobals "set" = some none)
    (z_zip : PySem.W.nsIn K mainGlobals "zip" = some none)
    (z_sorted : PySem.W.nsIn K mainGlobals "sorted" = some none)
    (z_ValueError : PySem.W.nsIn K mainGlobals "ValueError" = some none)
    (z_LARGEST : PySem.W.nsIn K mainGlobals "LARGEST" = some (some (.int 1000000 t_LARGEST)))
    (e_NotPrime : PySem.W.nsIn K mainGlobals "NotPrime" = some (some (.ref C1)))
    (e_BadRow : PySem.W.nsIn K mainGlobals "BadRow" = some (some (.ref C2)))
    (e_BadSpot : PySem.W.nsIn K mainGlobals "BadSpot" = some (some (.ref C3)))
    (e_NoDivisor : PySem.W.nsIn K mainGlobals "NoDivisor" = some (some (.ref C4)))
    (e_SameSpot : PySem.W.nsIn K mainGlobals "SameSpot" = some (some (.ref C5)))
    (e_TooMany : PySem.W.nsIn K mainGlobals "TooMany" = some (some (.ref C6)))
    (e_Enough : PySem.W.nsIn K mainGlobals "Enough" = some (some (.ref C7)))
    (e_AllRoots : PySem.W.nsIn K mainGlobals "AllRoots" = some (some (.ref C8)))
    (e_ClothError : PySem.W.nsIn K mainGlobals "ClothError" = some (some (.ref C9)))
    (x_NotPrime : PySem.W.excIn K C1 bmV "ValueError.__new__" = true)
    (x_BadRow : PySem.W.excIn K C2 bmV "ValueError.__new__" = true)
    (x_BadSpot : PySem.W.excIn K C3 bmV "ValueError.__new__" = true)
    (x_NoDivisor : PySem.W.excIn K C4 bmV "ValueError.__new__" = true)
    (x_SameSpot : PySem.W.excIn K C5 bmV "ValueError.__new__" = true)
    (x_TooMany : PySem.W.excIn K C6 bmV "ValueError.__new__" = true)
    (x_Enough : PySem.W.excIn K C7 bmV "ValueError.__new__" = true)
    (x_AllRoots : PySem.W.excIn K C8 bmV "ValueError.__new__" = true)
    (x_tab : excTab K ⟨C1, C2, C3, C4, C5, C6, C7, C8⟩ C9 = true)
    : ∃ fd : FuncData, (∀ (s : Shared) (v : Value), BindsTo s fd ⟨[v], []⟩ [("_law_script", v)]) ∧ ∀ base : Heap, K.In base → base.Ns mainGlobals mg → FnOk l.prog w K mg base CX0 65 fa fd ["_law_script"] (spLaw K) := by
  have e := hfa.symm.trans (PySem.W.mg_of X G a53)
  cases e
  have F1 := fun_mk (st := s_L_mixed) l1 c1 k1
  have D_L_mixed : Df K mg "_law_mixed" f1 _ ["_law_script"] := ⟨PySem.W.mg_of X G a1, k1, F1.binds (ps := ["_law_script"]) fun _ _ _ _ _ _ us hl => match us, hl with | [_], _ => rfl⟩
  have F2 := fun_mk (st := s_L_at) l2 c2 k2
  have D_L_at : Df K mg "_law_at" f2 _ ["_law_script", "_law_k"] := ⟨PySem.W.mg_of X G a2, k2, F2.binds (ps := ["_law_script", "_law_k"]) fun _ _ _ _ _ _ us hl => match us, hl with | [_, _], _ => rfl⟩
  have F3 := fun_mk (st := s_L_short) l3 c3 k3
  have D_L_short : Df K mg "_law_short" f3 _ ["_law_numbers"] := ⟨PySem.W.mg_of X G a3, k3, F3.binds (ps := ["_law_numbers"]) fun _ _ _ _ _ _ us hl => match us, hl with | [_], _ => rfl⟩
  have F4 := fun_mk (st := s_L_number_by) l4 c4 k4
  have D_L_number_by : Df K mg "_law_number_by" f4 _ ["_law_prime", "_law_cell"] := ⟨PySem.W.mg_of X G a4, k4, F4.binds (ps := ["_law_prime", "_law_cell"]) fun _ _ _ _ _ _ us hl => match us, hl with | [_, _], _ => rfl⟩
  have F5 := fun_mk (st := s_L_row_by) l5 c5 k5
  have D_L_row_by : Df K mg "_law_row_by" f5 _ ["_law_prime", "_law_cells"] := ⟨PySem.W.mg_of X G a5, k5, F5.binds (ps := ["_law_prime", "_law_cells"]) fun _ _ _ _ _ _ us hl => match us, hl with | [_, _], _ => rfl⟩
  have F6 := fun_mk (st := s_L_spoilt) l6 c6 k6
  have D_L_spoilt : Df K mg "_law_spoilt" f6 _ ["_law_way", "_law_bad", "_law_prime", "_law_parts"] := ⟨PySem.W.mg_of X G a6, k6, F6.binds (ps := ["_law_way", "_law_bad", "_law_prime", "_law_parts"]) fun _ _ _ _ _ _ us hl => match us, hl with | [_, _, _, _], _ => rfl⟩
  have F7 := fun_mk (st := s_L_any_bad) l7 c7 k7
  have D_L_any_bad : Df K mg "_law_any_bad" f7 _ ["_law_prime", "_law_numbers"] := ⟨PySem.W.mg_of X G a7, k7, F7.binds (ps := ["_law_prime", "_law_numbers"]) fun _ _ _ _ _ _ us hl => match us, hl with | [_, _], _ => rfl⟩
  have F8 := fun_mk (st := s_L_row_words) l8 c8 k8
  have D_L_row_words : Df K mg "_law_row_words" f8 _ ["_law_prime", "_law_one", "_law_two", "_law_spot"] := ⟨PySem.W.mg_of X G a8, k8, F8.binds (ps := ["_law_prime", "_law_one", "_law_two", "_law_spot"]) fun _ _ _ _ _ _ us hl => match us, hl with | [_, _, _, _], _ => rfl⟩
  have F9 := fun_mk (st := s_L_point_words) l9 c9 k9
  have D_L_point_words : Df K mg "_law_point_words" f9 _ ["_law_prime", "_law_points", "_law_numbers"] := ⟨PySem.W.mg_of X G a9, k9, F9.binds (ps := ["_law_prime", "_law_points", "_law_numbers"]) fun _ _ _ _ _ _ us hl => match us, hl with | [_, _, _], _ => rfl⟩
  have F10 := fun_mk (st := s_is_prime) l10 c10 k10
  have D_is_prime : Df K mg "is_prime" f10 _ ["number"] := ⟨PySem.W.mg_of X G a10, k10, F10.binds (ps := ["number"]) fun _ _ _ _ _ _ us hl => match us, hl with | [_], _ => rfl⟩
  have F11 := fun_mk (st := s_check_prime) l11 c11 k11
  have D_check_prime : Df K mg "check_prime" f11 _ ["prime"] := ⟨PySem.W.mg_of X G a11, k11, F11.binds (ps := ["prime"]) fun _ _ _ _ _ _ us hl => match us, hl with | [_], _ => rfl⟩
  have F12 := fun_mk (st := s_is_remainder) l12 c12 k12
  have D_is_remainder : Df K mg "is_remainder" f12 _ ["prime", "number"] := ⟨PySem.W.mg_of X G a12, k12, F12.binds (ps := ["prime", "number"]) fun _ _ _ _ _ _ us hl => match us, hl with | [_, _], _ => rfl⟩
  have F13 := fun_mk (st := s_check_row) l13 c13 k13
  have D_check_row : Df K mg "check_row" f13 _ ["prime", "row"] := ⟨PySem.W.mg_of X G a13, k13, F13.binds (ps := ["prime", "row"]) fun _ _ _ _ _ _ us hl => match us, hl with | [_, _], _ => rfl⟩
  have F14 := fun_mk (st := s_check_rows) l14 c14 k14
  have D_check_rows : Df K mg "check_rows" f14 _ ["prime", "one", "two"] := ⟨PySem.W.mg_of X G a14, k14, F14.binds (ps := ["prime", "one", "two"]) fun _ _ _ _ _ _ us hl => match us, hl with | [_, _, _], _ => rfl⟩
  have F15 := fun_mk (st := s_trimmed) l15 c15 k15
  have D_trimmed : Df K mg "trimmed" f15 _ ["numbers"] := ⟨PySem.W.mg_of X G a15, k15, F15.binds (ps := ["numbers"]) fun _ _ _ _ _ _ us hl => match us, hl with | [_], _ => rfl⟩
  have F16 := fun_mk (st := s_number_at) l16 c16 k16
  have D_number_at : Df K mg "number_at" f16 _ ["row", "power"] := ⟨PySem.W.mg_of X G a16, k16, F16.binds (ps := ["row", "power"]) fun _ _ _ _ _ _ us hl => match us, hl with | [_, _], _ => rfl⟩
  have F17 := fun_mk (st := s_sum_of) l17 c17 k17
  have D_sum_of : Df K mg "sum_of" f17 _ ["prime", "one", "two"] := ⟨PySem.W.mg_of X G a17, k17, F17.binds (ps := ["prime", "one", "two"]) fun _ _ _ _ _ _ us hl => match us, hl with | [_, _, _], _ => rfl⟩
  have F18 := fun_mk (st := s_added) l18 c18 k18
  have D_added : Df K mg "added" f18 _ ["prime", "one", "two"] := ⟨PySem.W.mg_of X G a18, k18, F18.binds (ps := ["prime", "one", "two"]) fun _ _ _ _ _ _ us hl => match us, hl with | [_, _, _], _ => rfl⟩
  have F19 := fun_mk (st := s_difference_of) l19 c19 k19
  have D_difference_of : Df K mg "difference_of" f19 _ ["prime", "one", "two"] := ⟨PySem.W.mg_of X G a19, k19, F19.binds (ps := ["prime", "one", "two"]) fun _ _ _ _ _ _ us hl => match us, hl with | [_, _, _], _ => rfl⟩
  have F20 := fun_mk (st := s_lessened) l20 c20 k20
  have D_lessened : Df K mg "lessened" f20 _ ["prime", "one", "two"] := ⟨PySem.W.mg_of X G a20, k20, F20.binds (ps := ["prime", "one", "two"]) fun _ _ _ _ _ _ us hl => match us, hl with | [_, _, _], _ => rfl⟩
  have F21 := fun_mk (st := s_product_of) l21 c21 k21
  have D_product_of : Df K mg "product_of" f21 _ ["prime", "one", "two"] := ⟨PySem.W.mg_of X G a21, k21, F21.binds (ps := ["prime", "one", "two"]) fun _ _ _ _ _ _ us hl => match us, hl with | [_, _, _], _ => rfl⟩
  have F22 := fun_mk (st := s_multiplied) l22 c22 k22
  have D_multiplied : Df K mg "multiplied" f22 _ ["prime", "one", "two"] := ⟨PySem.W.mg_of X G a22, k22, F22.binds (ps := ["prime", "one", "two"]) fun _ _ _ _ _ _ us hl => match us, hl with | [_, _, _], _ => rfl⟩
  have F23 := fun_mk (st := s_inverse_of) l23 c23 k23
  have D_inverse_of : Df K mg "inverse_of" f23 _ ["prime", "number"] := ⟨PySem.W.mg_of X G a23, k23, F23.binds (ps := ["prime", "number"]) fun _ _ _ _ _ _ us hl => match us, hl with | [_, _], _ => rfl⟩
  have F24 := fun_mk (st := s_parts_of) l24 c24 k24
  have D_parts_of : Df K mg "parts_of" f24 _ ["prime", "one", "two"] := ⟨PySem.W.mg_of X G a24, k24, F24.binds (ps := ["prime", "one", "two"]) fun _ _ _ _ _ _ us hl => match us, hl with | [_, _, _], _ => rfl⟩
  have F25 := fun_mk (st := s_split) l25 c25 k25
  have D_split : Df K mg "split" f25 _ ["prime", "one", "two"] := ⟨PySem.W.mg_of X G a25, k25, F25.binds (ps := ["prime", "one", "two"]) fun _ _ _ _ _ _ us hl => match us, hl with | [_, _, _], _ => rfl⟩
  have F26 := fun_mk (st := s_multiple_of) l26 c26 k26
  have D_multiple_of : Df K mg "multiple_of" f26 _ ["prime", "row", "factor"] := ⟨PySem.W.mg_of X G a26, k26, F26.binds (ps := ["prime", "row", "factor"]) fun _ _ _ _ _ _ us hl => match us, hl with | [_, _, _], _ => rfl⟩
  have F27 := fun_mk (st := s_common_of) l27 c27 k27
  have D_common_of : Df K mg "common_of" f27 _ ["prime", "one", "two"] := ⟨PySem.W.mg_of X G a27, k27, F27.binds (ps := ["prime", "one", "two"]) fun _ _ _ _ _ _ us hl => match us, hl with | [_, _, _], _ => rfl⟩
  have F28 := fun_mk (st := s_common) l28 c28 k28
  have D_common : Df K mg "common" f28 _ ["prime", "one", "two"] := ⟨PySem.W.mg_of X G a28, k28, F28.binds (ps := ["prime", "one", "two"]) fun _ _ _ _ _ _ us hl => match us, hl with | [_, _, _], _ => rfl⟩
  have F29 := fun_mk (st := s_divides) l29 c29 k29
  have D_divides : Df K mg "divides" f29 _ ["prime", "one", "two"] := ⟨PySem.W.mg_of X G a29, k29, F29.binds (ps := ["prime", "one", "two"]) fun _ _ _ _ _ _ us hl => match us, hl with | [_, _, _], _ => rfl⟩
  have F30 := fun_mk (st := s_L_two_way) l30 c30 k30
  have D_L_two_way : Df K mg "_law_two_way" f30 _ ["_law_which", "_law_prime", "_law_one", "_law_two"] := ⟨PySem.W.mg_of X G a30, k30, F30.binds (ps := ["_law_which", "_law_prime", "_law_one", "_law_two"]) fun _ _ _ _ _ _ us hl => match us, hl with | [_, _, _, _], _ => rfl⟩
  have F31 := fun_mk (st := s_check_remainder) l31 c31 k31
  have D_check_remainder : Df K mg "check_remainder" f31 _ ["prime", "number"] := ⟨PySem.W.mg_of X G a31, k31, F31.binds (ps := ["prime", "number"]) fun _ _ _ _ _ _ us hl => match us, hl with | [_, _], _ => rfl⟩
  have F32 := fun_mk (st := s_worth_of) l32 c32 k32
  have D_worth_of : Df K mg "worth_of" f32 _ ["prime", "numbers", "spot"] := ⟨PySem.W.mg_of X G a32, k32, F32.binds (ps := ["prime", "numbers", "spot"]) fun _ _ _ _ _ _ us hl => match us, hl with | [_, _, _], _ => rfl⟩
  have F33 := fun_mk (st := s_worth) l33 c33 k33
  have D_worth : Df K mg "worth" f33 _ ["prime", "row", "spot"] := ⟨PySem.W.mg_of X G a33, k33, F33.binds (ps := ["prime", "row", "spot"]) fun _ _ _ _ _ _ us hl => match us, hl with | [_, _, _], _ => rfl⟩
  have F34 := fun_mk (st := s_power_of) l34 c34 k34
  have D_power_of : Df K mg "power_of" f34 _ ["prime", "base", "exponent", "row"] := ⟨PySem.W.mg_of X G a34, k34, F34.binds (ps := ["prime", "base", "exponent", "row"]) fun _ _ _ _ _ _ us hl => match us, hl with | [_, _, _, _], _ => rfl⟩
  have F35 := fun_mk (st := s_once_each_of) l35 c35 k35
  have D_once_each_of : Df K mg "once_each_of" f35 _ ["prime", "row"] := ⟨PySem.W.mg_of X G a35, k35, F35.binds (ps := ["prime", "row"]) fun _ _ _ _ _ _ us hl => match us, hl with | [_, _], _ => rfl⟩
  have F36 := fun_mk (st := s_halves_of) l36 c36 k36
  have D_halves_of : Df K mg "halves_of" f36 _ ["prime", "row", "shift"] := ⟨PySem.W.mg_of X G a36, k36, F36.binds (ps := ["prime", "row", "shift"]) fun _ _ _ _ _ _ us hl => match us, hl with | [_, _, _], _ => rfl⟩
  have F37 := fun_mk (st := s_spots_of) l37 c37 k37
  have D_spots_of : Df K mg "spots_of" f37 _ ["prime", "row"] := ⟨PySem.W.mg_of X G a37, k37, F37.binds (ps := ["prime", "row"]) fun _ _ _ _ _ _ us hl => match us, hl with | [_, _], _ => rfl⟩
  have F38 := fun_mk (st := s_nought_at) l38 c38 k38
  have D_nought_at : Df K mg "nought_at" f38 _ ["prime", "spot"] := ⟨PySem.W.mg_of X G a38, k38, F38.binds (ps := ["prime", "spot"]) fun _ _ _ _ _ _ us hl => match us, hl with | [_, _], _ => rfl⟩
  have F39 := fun_mk (st := s_roots) l39 c39 k39
  have D_roots : Df K mg "roots" f39 _ ["prime", "row"] := ⟨PySem.W.mg_of X G a39, k39, F39.binds (ps := ["prime", "row"]) fun _ _ _ _ _ _ us hl => match us, hl with | [_, _], _ => rfl⟩
  have F40 := fun_mk (st := s_inverse) l40 c40 k40
  have D_inverse : Df K mg "inverse" f40 _ ["prime", "number"] := ⟨PySem.W.mg_of X G a40, k40, F40.binds (ps := ["prime", "number"]) fun _ _ _ _ _ _ us hl => match us, hl with | [_, _], _ => rfl⟩
  have F41 := fun_mk (st := s_check_points) l41 c41 k41
  have D_check_points : Df K mg "check_points" f41 _ ["prime", "points"] := ⟨PySem.W.mg_of X G a41, k41, F41.binds (ps := ["prime", "points"]) fun _ _ _ _ _ _ us hl => match us, hl with | [_, _], _ => rfl⟩
  have F42 := fun_mk (st := s_led_through) l42 c42 k42
  have D_led_through : Df K mg "led_through" f42 _ ["prime", "row", "still", "point"] := ⟨PySem.W.mg_of X G a42, k42, F42.binds (ps := ["prime", "row", "still", "point"]) fun _ _ _ _ _ _ us hl => match us, hl with | [_, _, _, _], _ => rfl⟩
  have F43 := fun_mk (st := s_rows_of) l43 c43 k43
  have D_rows_of : Df K mg "rows_of" f43 _ ["prime", "points"] := ⟨PySem.W.mg_of X G a43, k43, F43.binds (ps := ["prime", "points"]) fun _ _ _ _ _ _ us hl => match us, hl with | [_, _], _ => rfl⟩
  have F44 := fun_mk (st := s_through) l44 c44 k44
  have D_through : Df K mg "through" f44 _ ["prime", "points"] := ⟨PySem.W.mg_of X G a44, k44, F44.binds (ps := ["prime", "points"]) fun _ _ _ _ _ _ us hl => match us, hl with | [_, _], _ => rfl⟩
  have F45 := fun_mk (st := s_check_shares) l45 c45 k45
  have D_check_shares : Df K mg "check_shares" f45 _ ["prime", "shares"] := ⟨PySem.W.mg_of X G a45, k45, F45.binds (ps := ["prime", "shares"]) fun _ _ _ _ _ _ us hl => match us, hl with | [_, _], _ => rfl⟩
  have F46 := fun_mk (st := s_secret_by) l46 c46 k46
  have D_secret_by : Df K mg "secret_by" f46 _ ["prime", "shares"] := ⟨PySem.W.mg_of X G a46, k46, F46.binds (ps := ["prime", "shares"]) fun _ _ _ _ _ _ us hl => match us, hl with | [_, _], _ => rfl⟩
  have F47 := fun_mk (st := s_row_for) l47 c47 k47
  have D_row_for : Df K mg "row_for" f47 _ ["prime", "shares", "needed", "secret"] := ⟨PySem.W.mg_of X G a47, k47, F47.binds (ps := ["prime", "shares", "needed", "secret"]) fun _ _ _ _ _ _ us hl => match us, hl with | [_, _, _, _], _ => rfl⟩
  have F48 := fun_mk (st := s_first_off) l48 c48 k48
  have D_first_off : Df K mg "first_off" f48 _ ["prime", "shares", "needed"] := ⟨PySem.W.mg_of X G a48, k48, F48.binds (ps := ["prime", "shares", "needed"]) fun _ _ _ _ _ _ us hl => match us, hl with | [_, _, _], _ => rfl⟩
  have F49 := fun_mk (st := s_shares_of) l49 c49 k49
  have D_shares_of : Df K mg "shares_of" f49 _ ["prime", "secret", "others", "count"] := ⟨PySem.W.mg_of X G a49, k49, F49.binds (ps := ["prime", "secret", "others", "count"]) fun _ _ _ _ _ _ us hl => match us, hl with | [_, _, _, _], _ => rfl⟩
  have F50 := fun_mk (st := s_L_other_way) l50 c50 k50
  have D_L_other_way : Df K mg "_law_other_way" f50 _ ["_law_which", "_law_prime", "_law_one", "_law_two", "_law_points", "_law_numbers"] := ⟨PySem.W.mg_of X G a50, k50, F50.binds (ps := ["_law_which", "_law_prime", "_law_one", "_law_two", "_law_points", "_law_numbers"]) fun _ _ _ _ _ _ us hl => match us, hl with | [_, _, _, _, _, _], _ => rfl⟩
  have F51 := fun_mk (st := s_L_said) l51 c51 k51
  have D_L_said : Df K mg "_law_said" f51 _ ["_law_which", "_law_prime", "_law_one", "_law_two", "_law_points", "_law_numbers"] := ⟨PySem.W.mg_of X G a51, k51, F51.binds (ps := ["_law_which", "_law_prime", "_law_one", "_law_two", "_law_points", "_law_numbers"]) fun _ _ _ _ _ _ us hl => match us, hl with | [_, _, _, _, _, _], _ => rfl⟩
  have F52 := fun_mk (st := s_L_refuses) l52 c52 k52
  have D_L_refuses : Df K mg "_law_refuses" f52 _ ["_law_which", "_law_prime", "_law_one", "_law_two", "_law_points", "_law_numbers"] := ⟨PySem.W.mg_of X G a52, k52, F52.binds (ps := ["_law_which", "_law_prime", "_law_one", "_law_two", "_law_points", "_law_numbers"]) fun _ _ _ _ _ _ us hl => match us, hl with | [_, _, _, _, _, _], _ => rfl⟩
  have F53 := fun_mk (st := s_law) l53 c53 k53
  have T : Txt K mg := ⟨PySem.W.mg_none_of X G z_len, PySem.W.mg_none_of X G z_range, PySem.W.mg_none_of X G z_isinstance, PySem.W.mg_none_of X G z_int, PySem.W.mg_none_of X G z_bool, PySem.W.mg_none_of X G z_list, PySem.W.mg_none_of X G z_tuple, PySem.W.mg_none_of X G z_str, PySem.W.mg_none_of X G z_enumerate, PySem.W.mg_none_of X G z_reversed, PySem.W.mg_none_of X G z_max, PySem.W.mg_none_of X G z_min, PySem.W.mg_none_of X G z_set, PySem.W.mg_none_of X G z_zip, PySem.W.mg_none_of X G z_sorted, PySem.W.mg_none_of X G z_ValueError, ⟨_, PySem.W.mg_of X G z_LARGEST⟩⟩
  have T_NotPrime : mg "NotPrime" = some (.ref C1) := PySem.W.mg_of X G e_NotPrime
  have T_BadRow : mg "BadRow" = some (.ref C2) := PySem.W.mg_of X G e_BadRow
  have T_BadSpot : mg "BadSpot" = some (.ref C3) := PySem.W.mg_of X G e_BadSpot
  have T_NoDivisor : mg "NoDivisor" = some (.ref C4) := PySem.W.mg_of X G e_NoDivisor
  have T_SameSpot : mg "SameSpot" = some (.ref C5) := PySem.W.mg_of X G e_SameSpot
  have T_TooMany : mg "TooMany" = some (.ref C6) := PySem.W.mg_of X G e_TooMany
  have T_Enough : mg "Enough" = some (.ref C7) := PySem.W.mg_of X G e_Enough
  have T_AllRoots : mg "AllRoots" = some (.ref C8) := PySem.W.mg_of X G e_AllRoots
  have T_ClothError : mg "ClothError" = some (.ref C9) := PySem.W.mg_of X G e_ClothError
  refine ⟨PySem.W.fnOf "law" "law" (defArgs s_law) (defBody s_law) (defScope s_law) .none kV53 dc53 pm53 an53 cd53 ct53, fun s v => .of_eq rfl, fun base _ _ => ?_⟩
  have G_L_mixed := ok_L_mixed (P := l.prog) (w := w) (base := base) (n := 0) F1 T
  have G_L_at := ok_L_at (P := l.prog) (w := w) (base := base) (n := 0) F2 T
  have G_L_short := ok_L_short (P := l.prog) (w := w) (base := base) (n := 0) F3 T
  have G_L_number_by := ok_L_number_by (P := l.prog) (w := w) (base := base) (n := 0) F4 T
  have G_L_row_by := ok_L_row_by (P := l.prog) (w := w) (base := base) (n := 1) F5 T D_L_short (G_L_short.mono (by decide)) D_L_number_by (G_L_number_by.mono (by decide))
  have G_L_spoilt := ok_L_spoilt (P := l.prog) (w := w) (base := base) (n := 0) F6 T
  have G_L_any_bad := ok_L_any_bad (P := l.prog) (w := w) (base := base) (n := 0) F7 T
  have G_L_row_words := ok_L_row_words (P := l.prog) (w := w) (base := base) (n := 1) F8 T D_L_any_bad (G_L_any_bad.mono (by decide))
  have G_L_point_words := ok_L_point_words (P := l.prog) (w := w) (base := base) (n := 1) F9 T D_L_any_bad (G_L_any_bad.mono (by decide))
  have G_is_prime := ok_is_prime (P := l.prog) (w := w) (base := base) (n := 0) F10 T
  have G_check_prime := ok_check_prime (P := l.prog) (w := w) (base := base) (n := 1) F11 T D_is_prime (G_is_prime.mono (by decide))
  have G_is_remainder := ok_is_remainder (P := l.prog) (w := w) (base := base) (n := 0) F12 T
  have G_check_row := ok_check_row (P := l.prog) (w := w) (base := base) (n := 1) F13 T D_is_remainder (G_is_remainder.mono (by decide))
  have G_check_rows := ok_check_rows (P := l.prog) (w := w) (base := base) (n := 2) F14 T D_check_prime (G_check_prime.mono (by decide)) D_check_row (G_check_row.mono (by decide))
  have G_trimmed := ok_trimmed (P := l.prog) (w := w) (base := base) (n := 0) F15 T
  have G_number_at := ok_number_at (P := l.prog) (w := w) (base := base) (n := 0) F16 T
  have G_sum_of := ok_sum_of (P := l.prog) (w := w) (base := base) (n := 1) F17 T D_trimmed (G_trimmed.mono (by decide)) D_number_at (G_number_at.mono (by decide))
  have G_added := ok_added (P := l.prog) (w := w) (base := base) (n := 3) F18 T D_check_rows (G_check_rows.mono (by decide)) D_sum_of (G_sum_of.mono (by decide))
  have GE_check_prime := okE_check_prime (P := l.prog) (w := w) (base := base) (n := 1) (c := ⟨C1, C2, C3, C4, C5, C6, C7, C8⟩) F11 T T_NotPrime x_NotPrime D_is_prime (G_is_prime.mono (by decide))
  have GE_check_row := okE_check_row (P := l.prog) (w := w) (base := base) (n := 1) (c := ⟨C1, C2, C3, C4, C5, C6, C7, C8⟩) F13 T T_BadRow x_BadRow D_is_remainder (G_is_remainder.mono (by decide))
  have GE_check_rows := okE_check_rows (P := l.prog) (w := w) (base := base) (n := 2) (c := ⟨C1, C2, C3, C4, C5, C6, C7, C8⟩) F14 T D_check_prime (GE_check_prime.mono (by decide)) D_check_row (GE_check_row.mono (by decide))
  have GE_added := okE_added (P := l.prog) (w := w) (base := base) (n := 3) (c := ⟨C1, C2, C3, C4, C5, C6, C7, C8⟩) F18 T D_check_rows (GE_check_rows.mono (by decide))
  have GC_added := okC_added (P := l.prog) (w := w) (base := base) (k := 4) (c := ⟨C1, C2, C3, C4, C5, C6, C7, C8⟩) (G_added.mono (by decide)) (GE_added.mono (by decide))
  have G_difference_of := ok_difference_of (P := l.prog) (w := w) (base := base) (n := 1) F19 T D_trimmed (G_trimmed.mono (by decide)) D_number_at (G_number_at.mono (by decide))
  have G_lessened := ok_lessened (P := l.prog) (w := w) (base := base) (n := 3) F20 T D_check_rows (G_check_rows.mono (by decide)) D_difference_of (G_difference_of.mono (by decide))
  have GE_lessened := okE_lessened (P := l.prog) (w := w) (base := base) (n := 3) (c := ⟨C1, C2, C3, C4, C5, C6, C7, C8⟩) F20 T D_check_rows (GE_check_rows.mono (by decide))
  have GC_lessened := okC_lessened (P := l.prog) (w := w) (base := base) (k := 4) (c := ⟨C1, C2, C3, C4, C5, C6, C7, C8⟩) (G_lessened.mono (by decide)) (GE_lessened.mono (by decide))
  have G_product_of := ok_product_of (P := l.prog) (w := w) (base := base) (n := 1) F21 T D_trimmed (G_trimmed.mono (by decide))
  have G_multiplied := ok_multiplied (P := l.prog) (w := w) (base := base) (n := 3) F22 T D_check_rows (G_check_rows.mono (by decide)) D_product_of (G_product_of.mono (by decide))
  have GE_multiplied := okE_multiplied (P := l.prog) (w := w) (base := base) (n := 3) (c := ⟨C1, C2, C3, C4, C5, C6, C7, C8⟩) F22 T D_check_rows (GE_check_rows.mono (by decide))
  have GC_multiplied := okC_multiplied (P := l.prog) (w := w) (base := base) (k := 4) (c := ⟨C1, C2, C3, C4, C5, C6, C7, C8⟩) (G_multiplied.mono (by decide)) (GE_multiplied.mono (by decide))
  have G_inverse_of := ok_inverse_of (P := l.prog) (w := w) (base := base) (n := 0) F23 T
  have G_parts_of := ok_parts_of (P := l.prog) (w := w) (base := base) (n := 1) F24 T D_inverse_of (G_inverse_of.mono (by decide)) D_trimmed (G_trimmed.mono (by decide))
  have G_split := ok_split (P := l.prog) (w := w) (base := base) (n := 3) F25 T D_check_rows (G_check_rows.mono (by decide)) D_parts_of (G_parts_of.mono (by decide))
  have GE_split := okE_split (P := l.prog) (w := w) (base := base) (n := 3) (c := ⟨C1, C2, C3, C4, C5, C6, C7, C8⟩) F25 T T_NoDivisor x_NoDivisor D_check_rows (GE_check_rows.mono (by decide))
  have GC_split := okC_split (P := l.prog) (w := w) (base := base) (k := 4) (c := ⟨C1, C2, C3, C4, C5, C6, C7, C8⟩) (G_split.mono (by decide)) (GE_split.mono (by decide))
  have G_multiple_of := ok_multiple_of (P := l.prog) (w := w) (base := base) (n := 1) F26 T D_trimmed (G_trimmed.mono (by decide))
  have G_common_of := ok_common_of (P := l.prog) (w := w) (base := base) (n := 2) F27 T D_parts_of (G_parts_of.mono (by decide)) D_product_of (G_product_of.mono (by decide)) D_difference_of (G_difference_of.mono (by decide)) D_inverse_of (G_inverse_of.mono (by decide)) D_multiple_of (G_multiple_of.mono (by decide))
  have G_common := ok_common (P := l.prog) (w := w) (base := base) (n := 3) F28 T D_check_rows (G_check_rows.mono (by decide)) D_common_of (G_common_of.mono (by decide))
  have GE_common := okE_common (P := l.prog) (w := w) (base := base) (n := 3) (c := ⟨C1, C2, C3, C4, C5, C6, C7, C8⟩) F28 T D_check_rows (GE_check_rows.mono (by decide))
  have GC_common := okC_common (P := l.prog) (w := w) (base := base) (k := 4) (c := ⟨C1, C2, C3, C4, C5, C6, C7, C8⟩) (G_common.mono (by decide)) (GE_common.mono (by decide))
  have G_divides := ok_divides (P := l.prog) (w := w) (base := base) (n := 3) F29 T D_check_rows (G_check_rows.mono (by decide)) D_parts_of (G_parts_of.mono (by decide))
  have GE_divides := okE_divides (P := l.prog) (w := w) (base := base) (n := 3) (c := ⟨C1, C2, C3, C4, C5, C6, C7, C8⟩) F29 T D_check_rows (GE_check_rows.mono (by decide))
  have GC_divides := okC_divides (P := l.prog) (w := w) (base := base) (k := 4) (c := ⟨C1, C2, C3, C4, C5, C6, C7, C8⟩) (G_divides.mono (by decide)) (GE_divides.mono (by decide))
  have GE_L_two_way := okE_L_two_way (P := l.prog) (w := w) (base := base) (n := 4) (c := ⟨C1, C2, C3, C4, C5, C6, C7, C8⟩) F30 T D_added (GC_added.mono (by decide)) D_lessened (GC_lessened.mono (by decide)) D_multiplied (GC_multiplied.mono (by decide)) D_split (GC_split.mono (by decide)) D_common (GC_common.mono (by decide)) D_divides (GC_divides.mono (by decide))
  have G_check_remainder := ok_check_remainder (P := l.prog) (w := w) (base := base) (n := 1) F31 T D_is_remainder (G_is_remainder.mono (by decide))
  have G_worth_of := ok_worth_of (P := l.prog) (w := w) (base := base) (n := 0) F32 T
  have G_worth := ok_worth (P := l.prog) (w := w) (base := base) (n := 2) F33 T D_check_prime (G_check_prime.mono (by decide)) D_check_row (G_check_row.mono (by decide)) D_check_remainder (G_check_remainder.mono (by decide)) D_worth_of (G_worth_of.mono (by decide))
  have GE_check_remainder := okE_check_remainder (P := l.prog) (w := w) (base := base) (n := 1) (c := ⟨C1, C2, C3, C4, C5, C6, C7, C8⟩) F31 T T_BadSpot x_BadSpot D_is_remainder (G_is_remainder.mono (by decide))
  have GE_worth := okE_worth (P := l.prog) (w := w) (base := base) (n := 2) (c := ⟨C1, C2, C3, C4, C5, C6, C7, C8⟩) F33 T D_check_prime (GE_check_prime.mono (by decide)) D_check_row (GE_check_row.mono (by decide)) D_check_remainder (GE_check_remainder.mono (by decide))
  have GC_worth := okC_worth (P := l.prog) (w := w) (base := base) (k := 3) (c := ⟨C1, C2, C3, C4, C5, C6, C7, C8⟩) (G_worth.mono (by decide)) (GE_worth.mono (by decide))
  have G_power_of := ok_power_of (P := l.prog) (w := w) (base := base) (n := 2) F34 T D_power_of D_parts_of (G_parts_of.mono (by decide)) D_product_of (G_product_of.mono (by decide))
  have G_once_each_of := ok_once_each_of (P := l.prog) (w := w) (base := base) (n := 24) F35 T D_power_of (G_power_of.mono (by decide)) D_common_of (G_common_of.mono (by decide)) D_difference_of (G_difference_of.mono (by decide))
  have G_halves_of := ok_halves_of (P := l.prog) (w := w) (base := base) (n := 24) F36 T D_power_of (G_power_of.mono (by decide)) D_common_of (G_common_of.mono (by decide)) D_difference_of (G_difference_of.mono (by decide)) D_parts_of (G_parts_of.mono (by decide))
  have G_spots_of := ok_spots_of (P := l.prog) (w := w) (base := base) (n := 25) F37 T D_once_each_of (G_once_each_of.mono (by decide)) D_halves_of (G_halves_of.mono (by decide))
  have G_nought_at := ok_nought_at (P := l.prog) (w := w) (base := base) (n := 0) F38 T
  have G_roots := ok_roots (P := l.prog) (w := w) (base := base) (n := 26) F39 T D_check_prime (G_check_prime.mono (by decide)) D_check_row (G_check_row.mono (by decide)) D_spots_of (G_spots_of.mono (by decide)) D_worth_of (G_worth_of.mono (by decide)) D_parts_of (G_parts_of.mono (by decide)) D_nought_at (G_nought_at.mono (by decide))
  have GE_roots := okE_roots (P := l.prog) (w := w) (base := base) (n := 2) (c := ⟨C1, C2, C3, C4, C5, C6, C7, C8⟩) F39 T T_AllRoots x_AllRoots D_check_prime (GE_check_prime.mono (by decide)) D_check_row (GE_check_row.mono (by decide))
  have GC_roots := okC_roots (P := l.prog) (w := w) (base := base) (k := 27) (c := ⟨C1, C2, C3, C4, C5, C6, C7, C8⟩) (G_roots.mono (by decide)) (GE_roots.mono (by decide))
  have GE_inverse := okE_inverse (P := l.prog) (w := w) (base := base) (n := 2) (c := ⟨C1, C2, C3, C4, C5, C6, C7, C8⟩) F40 T T_NoDivisor x_NoDivisor D_check_prime (GE_check_prime.mono (by decide)) D_check_remainder (GE_check_remainder.mono (by decide)) D_inverse_of (G_inverse_of.mono (by decide))
  have GC_inverse := okC_inverse (P := l.prog) (w := w) (base := base) (k := 3) (c := ⟨C1, C2, C3, C4, C5, C6, C7, C8⟩) (GE_inverse.mono (by decide))
  have G_check_points := ok_check_points (P := l.prog) (w := w) (base := base) (n := 2) F41 T D_check_remainder (G_check_remainder.mono (by decide))
  have G_led_through := ok_led_through (P := l.prog) (w := w) (base := base) (n := 2) F42 T D_worth_of (G_worth_of.mono (by decide)) D_inverse_of (G_inverse_of.mono (by decide)) D_sum_of (G_sum_of.mono (by decide)) D_multiple_of (G_multiple_of.mono (by decide))
  have G_rows_of := ok_rows_of (P := l.prog) (w := w) (base := base) (n := 3) F43 T D_led_through (G_led_through.mono (by decide)) D_product_of (G_product_of.mono (by decide)) D_nought_at (G_nought_at.mono (by decide))
  have G_through := ok_through (P := l.prog) (w := w) (base := base) (n := 4) F44 T D_check_prime (G_check_prime.mono (by decide)) D_check_points (G_check_points.mono (by decide)) D_rows_of (G_rows_of.mono (by decide))
  have GE_check_points := okE_check_points (P := l.prog) (w := w) (base := base) (n := 2) (c := ⟨C1, C2, C3, C4, C5, C6, C7, C8⟩) F41 T T_SameSpot x_SameSpot D_check_remainder (GE_check_remainder.mono (by decide))
  have GE_through := okE_through (P := l.prog) (w := w) (base := base) (n := 3) (c := ⟨C1, C2, C3, C4, C5, C6, C7, C8⟩) F44 T D_check_prime (GE_check_prime.mono (by decide)) D_check_points (GE_check_points.mono (by decide))
  have GC_through := okC_through (P := l.prog) (w := w) (base := base) (k := 5) (c := ⟨C1, C2, C3, C4, C5, C6, C7, C8⟩) (G_through.mono (by decide)) (GE_through.mono (by decide))
  have G_check_shares := ok_check_shares (P := l.prog) (w := w) (base := base) (n := 3) F45 T D_check_points (G_check_points.mono (by decide))
  have G_secret_by := ok_secret_by (P := l.prog) (w := w) (base := base) (n := 4) F46 T D_check_prime (G_check_prime.mono (by decide)) D_check_shares (G_check_shares.mono (by decide)) D_rows_of (G_rows_of.mono (by decide)) D_worth_of (G_worth_of.mono (by decide))
  have GE_check_shares := okE_check_shares (P := l.prog) (w := w) (base := base) (n := 3) (c := ⟨C1, C2, C3, C4, C5, C6, C7, C8⟩) F45 T T_BadSpot x_BadSpot D_check_points (GE_check_points.mono (by decide))
  have GE_secret_by := okE_secret_by (P := l.prog) (w := w) (base := base) (n := 4) (c := ⟨C1, C2, C3, C4, C5, C6, C7, C8⟩) F46 T D_check_prime (GE_check_prime.mono (by decide)) D_check_shares (GE_check_shares.mono (by decide))
  have GC_secret_by := okC_secret_by (P := l.prog) (w := w) (base := base) (k := 5) (c := ⟨C1, C2, C3, C4, C5, C6, C7, C8⟩) (G_secret_by.mono (by decide)) (GE_secret_by.mono (by decide))
  have G_row_for := ok_row_for (P := l.prog) (w := w) (base := base) (n := 4) F47 T T_Enough x_Enough D_check_prime (G_check_prime.mono (by decide)) D_check_shares (G_check_shares.mono (by decide)) D_check_remainder (G_check_remainder.mono (by decide)) D_rows_of (G_rows_of.mono (by decide))
  have GE_row_for := okE_row_for (P := l.prog) (w := w) (base := base) (n := 4) (c := ⟨C1, C2, C3, C4, C5, C6, C7, C8⟩) F47 T D_check_prime (GE_check_prime.mono (by decide)) D_check_shares (GE_check_shares.mono (by decide)) D_check_remainder (GE_check_remainder.mono (by decide))
  have GC_row_for := okC_row_for (P := l.prog) (w := w) (base := base) (k := 5) (c := ⟨C1, C2, C3, C4, C5, C6, C7, C8⟩) (G_row_for.mono (by decide)) (GE_row_for.mono (by decide))
  have G_first_off := ok_first_off (P := l.prog) (w := w) (base := base) (n := 4) F48 T D_check_prime (G_check_prime.mono (by decide)) D_check_shares (G_check_shares.mono (by decide)) D_rows_of (G_rows_of.mono (by decide))
  have GE_first_off := okE_first_off (P := l.prog) (w := w) (base := base) (n := 4) (c := ⟨C1, C2, C3, C4, C5, C6, C7, C8⟩) (nd := 1) F48 T D_check_prime (GE_check_prime.mono (by decide)) D_check_shares (GE_check_shares.mono (by decide))
  have GC_first_off := okC_first_off (P := l.prog) (w := w) (base := base) (k := 5) (c := ⟨C1, C2, C3, C4, C5, C6, C7, C8⟩) (nd := 1) (G_first_off.mono (by decide)) (GE_first_off.mono (by decide))
  have G_shares_of := ok_shares_of (P := l.prog) (w := w) (base := base) (n := 2) F49 T T_TooMany x_TooMany D_check_prime (G_check_prime.mono (by decide)) D_check_remainder (G_check_remainder.mono (by decide)) D_worth_of (G_worth_of.mono (by decide))
  have GE_shares_of := okE_shares_of (P := l.prog) (w := w) (base := base) (n := 2) (c := ⟨C1, C2, C3, C4, C5, C6, C7, C8⟩) F49 T D_check_prime (GE_check_prime.mono (by decide)) D_check_remainder (GE_check_remainder.mono (by decide))
  have GC_shares_of := okC_shares_of (P := l.prog) (w := w) (base := base) (k := 3) (c := ⟨C1, C2, C3, C4, C5, C6, C7, C8⟩) (G_shares_of.mono (by decide)) (GE_shares_of.mono (by decide))
  have GE_L_other_way := okE_L_other_way (P := l.prog) (w := w) (base := base) (n := 27) (c := ⟨C1, C2, C3, C4, C5, C6, C7, C8⟩) F50 T D_worth (GC_worth.mono (by decide)) D_roots (GC_roots.mono (by decide)) D_inverse (GC_inverse.mono (by decide)) D_through (GC_through.mono (by decide)) D_secret_by (GC_secret_by.mono (by decide)) D_row_for (GC_row_for.mono (by decide)) D_first_off (GC_first_off.mono (by decide)) D_shares_of (GC_shares_of.mono (by decide))
  have G_L_said := ok_L_said (P := l.prog) (w := w) (base := base) (n := 28) (c := ⟨C1, C2, C3, C4, C5, C6, C7, C8⟩) F51 T T_NotPrime T_BadRow T_BadSpot T_NoDivisor T_SameSpot T_TooMany T_Enough T_AllRoots x_tab D_L_two_way (GE_L_two_way.mono (by decide)) D_L_other_way (GE_L_other_way.mono (by decide))
  have G_L_refuses := ok_L_refuses (P := l.prog) (w := w) (base := base) (n := 28) (c := ⟨C1, C2, C3, C4, C5, C6, C7, C8⟩) F52 T T_NotPrime T_BadRow T_BadSpot T_NoDivisor T_SameSpot T_TooMany T_Enough T_AllRoots T_ClothError x_tab D_L_two_way (GE_L_two_way.mono (by decide)) D_L_other_way (GE_L_other_way.mono (by decide))
  have G_law := ok_law (P := l.prog) (w := w) (base := base) (n := 64) F53 T D_L_mixed (G_L_mixed.mono (by decide)) D_L_at (G_L_at.mono (by decide)) D_L_row_by (G_L_row_by.mono (by decide)) D_L_spoilt (G_L_spoilt.mono (by decide)) D_L_row_words (G_L_row_words.mono (by decide)) D_L_point_words (G_L_point_words.mono (by decide)) D_L_said (G_L_said.mono (by decide)) D_L_refuses (G_L_refuses.mono (by decide))
  exact G_law
theorem walk {l : PySem.W.OpenLaw} {q : Program} {loose : List Str} {XP : (Str → Option Value) → Heap → Prop} {YP : World → Heap → Prop} {d : DefRec} {K : Params → PySem.W.Frag} (hn : l.most = some 63) (hdf : d.params.defaults = [])
    (hY : ∀ (w : World) (h : Heap), YP w h → (K w.params).In h)
    (F : ∀ (w : World) (mg : Str → Option Value) (fa : Addr) (h : Heap), (K w.params).In h → h.Ns mainGlobals mg → mg d.name = some (.ref fa) →
      ∃ fd : FuncData, (∀ (s : Shared) (u : Value), BindsTo s fd ⟨[u], []⟩ [("_law_script", u)]) ∧ ∀ base : Heap, (K w.params).In base → base.Ns mainGlobals mg → FnOk l.prog w (K w.params) mg base CX0 65 fa fd ["_law_script"] (spLaw (K w.params))) :
    PySem.W.WalkO q loose XP YP l.row.toRowW d [] (fun f vs => PySem.call f vs) :=
  L2.walk_of (n := 63) (k := 65) (x := "_law_script") (CX := fun _ => CX0) (sp := fun w => spLaw (K w.params)) hn (by decide) hdf ⟨rfl, by decide, by decide⟩ hY F (fun _ _ a ns hl _ hS => ⟨a, ns, rfl, hS, hl, fun _ => rfl⟩) fun _ _ _ _ _ z => z
end Prf
namespace PySem.W.Fast
def tw42226546069668824 : Unit := ()
def tw14960735007627958443 : Unit := ()
def tw2548487902050915357 : Unit := ()
def tw13316728350028491814 : Unit := ()
def tw10553242368348732930 : Unit := ()
def tw14893524471094976299 : Unit := ()
def tw14618969500501978887 : Unit := ()
def tw11393183298172418047 : Unit := ()
def tw681321630774634907 : Unit := ()
def tw17951428702951792613 : Unit := ()
def tw11761903454606478422 : Unit := ()
def tw5130703302078500928 : Unit := ()
def tw7998671990253746872 : Unit := ()
def tw15184873298813550628 : Unit := ()
def tw1948474520889478401 : Unit := ()
def tw14986478282204114220 : Unit := ()
def tw16633614024462810485 : Unit := ()
def tw5063441364079807948 : Unit := ()
def tw17610210256659433421 : Unit := ()
def tw17068664702788545843 : Unit := ()
def tw10317320218409296253 : Unit := ()
def tw1804837394383676766 : Unit := ()
def tw12805595816880369944 : Unit := ()
def tw3899770731236576536 : Unit := ()
def tw16631389063076200767 : Unit := ()
def tw1126696935592713140 : Unit := ()
def tw8223356258679568027 : Unit := ()
def tw12205045668091493762 : Unit := ()
def tw18339076551085468482 : Unit := ()
def tw623897010318940847 : Unit := ()
def tw1440885380258239215 : Unit := ()
def tw10566114285909592875 : Unit := ()
def tw9090672058969517597 : Unit := ()
def tw11556978755643761790 : Unit := ()
def tw15431585324569959975 : Unit := ()
def tw13809821187401185075 : Unit := ()
def tw16433362071790263463 : Unit := ()
def tw12439310131457620614 : Unit := ()
def tw12807060841905497928 : Unit := ()
def tw17667810809633878468 : Unit := ()
def tw8645265584711288441 : Unit := ()
def tw15146079215167367367 : Unit := ()
def tw2021785002689425271 : Unit := ()
def tw2212095780316183701 : Unit := ()
def tw11750479225742368372 : Unit := ()
def tw240400593182640634 : Unit := ()
def tw17106397535502208084 : Unit := ()
def tw15032189371949608873 : Unit := ()
def tw17643501301766373750 : Unit := ()
def tw15080230141860085800 : Unit := ()
end PySem.W.Fast
open PySem PySem.W PyProof.Rows
set_option maxRecDepth 100000 in
set_option maxHeartbeats 0 in
theorem PySem.Challenge.cw_primecloth_k14_refused_holds : PySem.Challenge.rw_primecloth_k14_refused.Holds := by
  w_on; o_law; k_head; (case hw => w_witness2)
  k_fill
  refine Prf.walk (l := PySem.Challenge.rw_primecloth_k14_refused) rfl rfl (fun w h Y => PySem.W.kIn_of Y) ?F
  case F =>
    intro w mg fa h KX G hmg
    refine' Prf.all_mk KX G hmg ?a1 ?l1 ?c1 ?k1 ?a2 ?l2 ?c2 ?k2 ?a3 ?l3 ?c3 ?k3 ?a4 ?l4 ?c4 ?k4 ?a5 ?l5 ?c5 ?k5 ?a6 ?l6 ?c6 ?k6 ?a7 ?l7 ?c7 ?k7 ?a8 ?l8 ?c8 ?k8 ?a9 ?l9 ?c9 ?k9 ?a10 ?l10 ?c10 ?k10 ?a11 ?l11 ?c11 ?k11 ?a12 ?l12 ?c12 ?k12 ?a13 ?l13 ?c13 ?k13 ?a14 ?l14 ?c14 ?k14 ?a15 ?l15 ?c15 ?k15 ?a16 ?l16 ?c16 ?k16 ?a17 ?l17 ?c17 ?k17 ?a18 ?l18 ?c18 ?k18 ?a19 ?l19 ?c19 ?k19 ?a20 ?l20 ?c20 ?k20 ?a21 ?l21 ?c21 ?k21 ?a22 ?l22 ?c22 ?k22 ?a23 ?l23 ?c23 ?k23 ?a24 ?l24 ?c24 ?k24 ?a25 ?l25 ?c25 ?k25 ?a26 ?l26 ?c26 ?k26 ?a27 ?l27 ?c27 ?k27 ?a28 ?l28 ?c28 ?k28 ?a29 ?l29 ?c29 ?k29 ?a30 ?l30 ?c30 ?k30 ?a31 ?l31 ?c31 ?k31 ?a32 ?l32 ?c32 ?k32 ?a33 ?l33 ?c33 ?k33 ?a34 ?l34 ?c34 ?k34 ?a35 ?l35 ?c35 ?k35 ?a36 ?l36 ?c36 ?k36 ?a37 ?l37 ?c37 ?k37 ?a38 ?l38 ?c38 ?k38 ?a39 ?l39 ?c39 ?k39 ?a40 ?l40 ?c40 ?k40 ?a41 ?l41 ?c41 ?k41 ?a42 ?l42 ?c42 ?k42 ?a43 ?l43 ?c43 ?k43 ?a44 ?l44 ?c44 ?k44 ?a45 ?l45 ?c45 ?k45 ?a46 ?l46 ?c46 ?k46 ?a47 ?l47 ?c47 ?k47 ?a48 ?l48 ?c48 ?k48 ?a49 ?l49 ?c49 ?k49 ?a50 ?l50 ?c50 ?k50 ?a51 ?l51 ?c51 ?k51 ?a52 ?l52 ?c52 ?k52 ?a53 ?l53 ?c53 ?k53 ?z_len ?z_range ?z_isinstance ?z_int ?z_bool ?z_list ?z_tuple ?z_str ?z_enumerate ?z_reversed ?z_max ?z_min ?z_set ?z_zip ?z_sorted ?z_ValueError ?z_LARGEST ?e_NotPrime ?e_BadRow ?e_BadSpot ?e_NoDivisor ?e_SameSpot ?e_TooMany ?e_Enough ?e_AllRoots ?e_ClothError ?x_NotPrime ?x_BadRow ?x_BadSpot ?x_NoDivisor ?x_SameSpot ?x_TooMany ?x_Enough ?x_AllRoots ?x_tab
    (case a1 => k_is)
    (case l1 => k_is)
    (case c1 => k_is)
    (case k1 => k_is)
    (case a2 => k_is)
    (case l2 => k_is)
    (case c2 => k_is)
    (case k2 => k_is)
    (case a3 => k_is)
    (case l3 => k_is)
    (case c3 => k_is)
    (case k3 => k_is)
    (case a4 => k_is)
    (case l4 => k_is)
    (case c4 => k_is)
    (case k4 => k_is)
    (case a5 => k_is)
    (case l5 => k_is)
    (case c5 => k_is)
    (case k5 => k_is)
    (case a6 => k_is)
    (case l6 => k_is)
    (case c6 => k_is)
    (case k6 => k_is)
    (case a7 => k_is)
    (case l7 => k_is)
    (case c7 => k_is)
    (case k7 => k_is)
    (case a8 => k_is)
    (case l8 => k_is)
    (case c8 => k_is)
    (case k8 => k_is)
    (case a9 => k_is)
    (case l9 => k_is)
    (case c9 => k_is)
    (case k9 => k_is)
    (case a10 => k_is)
    (case l10 => k_is)
    (case c10 => k_is)
    (case k10 => k_is)
    (case a11 => k_is)
    (case l11 => k_is)
    (case c11 => k_is)
    (case k11 => k_is)
    (case a12 => k_is)
    (case l12 => k_is)
    (case c12 => k_is)
    (case k12 => k_is)
    (case a13 => k_is)
    (case l13 => k_is)
    (case c13 => k_is)
    (case k13 => k_is)
    (case a14 => k_is)
    (case l14 => k_is)
    (case c14 => k_is)
    (case k14 => k_is)
    (case a15 => k_is)
    (case l15 => k_is)
    (case c15 => k_is)
    (case k15 => k_is)
    (case a16 => k_is)
    (case l16 => k_is)
    (case c16 => k_is)
    (case k16 => k_is)
    (case a17 => k_is)
    (case l17 => k_is)
    (case c17 => k_is)
    (case k17 => k_is)
    (case a18 => k_is)
    (case l18 => k_is)
    (case c18 => k_is)
    (case k18 => k_is)
    (case a19 => k_is)
    (case l19 => k_is)
    (case c19 => k_is)
    (case k19 => k_is)
    (case a20 => k_is)
    (case l20 => k_is)
    (case c20 => k_is)
    (case k20 => k_is)
    (case a21 => k_is)
    (case l21 => k_is)
    (case c21 => k_is)
    (case k21 => k_is)
    (case a22 => k_is)
    (case l22 => k_is)
    (case c22 => k_is)
    (case k22 => k_is)
    (case a23 => k_is)
    (case l23 => k_is)
    (case c23 => k_is)
    (case k23 => k_is)
    (case a24 => k_is)
    (case l24 => k_is)
    (case c24 => k_is)
    (case k24 => k_is)
    (case a25 => k_is)
    (case l25 => k_is)
    (case c25 => k_is)
    (case k25 => k_is)
    (case a26 => k_is)
    (case l26 => k_is)
    (case c26 => k_is)
    (case k26 => k_is)
    (case a27 => k_is)
    (case l27 => k_is)
    (case c27 => k_is)
    (case k27 => k_is)
    (case a28 => k_is)
    (case l28 => k_is)
    (case c28 => k_is)
    (case k28 => k_is)
    (case a29 => k_is)
    (case l29 => k_is)
    (case c29 => k_is)
    (case k29 => k_is)
    (case a30 => k_is)
    (case l30 => k_is)
    (case c30 => k_is)
    (case k30 => k_is)
    (case a31 => k_is)
    (case l31 => k_is)
    (case c31 => k_is)
    (case k31 => k_is)
    (case a32 => k_is)
    (case l32 => k_is)
    (case c32 => k_is)
    (case k32 => k_is)
    (case a33 => k_is)
    (case l33 => k_is)
    (case c33 => k_is)
    (case k33 => k_is)
    (case a34 => k_is)
    (case l34 => k_is)
    (case c34 => k_is)
    (case k34 => k_is)
    (case a35 => k_is)
    (case l35 => k_is)
    (case c35 => k_is)
    (case k35 => k_is)
    (case a36 => k_is)
    (case l36 => k_is)
    (case c36 => k_is)
    (case k36 => k_is)
    (case a37 => k_is)
    (case l37 => k_is)
    (case c37 => k_is)
    (case k37 => k_is)
    (case a38 => k_is)
    (case l38 => k_is)
    (case c38 => k_is)
    (case k38 => k_is)
    (case a39 => k_is)
    (case l39 => k_is)
    (case c39 => k_is)
    (case k39 => k_is)
    (case a40 => k_is)
    (case l40 => k_is)
    (case c40 => k_is)
    (case k40 => k_is)
    (case a41 => k_is)
    (case l41 => k_is)
    (case c41 => k_is)
    (case k41 => k_is)
    (case a42 => k_is)
    (case l42 => k_is)
    (case c42 => k_is)
    (case k42 => k_is)
    (case a43 => k_is)
    (case l43 => k_is)
    (case c43 => k_is)
    (case k43 => k_is)
    (case a44 => k_is)
    (case l44 => k_is)
    (case c44 => k_is)
    (case k44 => k_is)
    (case a45 => k_is)
    (case l45 => k_is)
    (case c45 => k_is)
    (case k45 => k_is)
    (case a46 => k_is)
    (case l46 => k_is)
    (case c46 => k_is)
    (case k46 => k_is)
    (case a47 => k_is)
    (case l47 => k_is)
    (case c47 => k_is)
    (case k47 => k_is)
    (case a48 => k_is)
    (case l48 => k_is)
    (case c48 => k_is)
    (case k48 => k_is)
    (case a49 => k_is)
    (case l49 => k_is)
    (case c49 => k_is)
    (case k49 => k_is)
    (case a50 => k_is)
    (case l50 => k_is)
    (case c50 => k_is)
    (case k50 => k_is)
    (case a51 => k_is)
    (case l51 => k_is)
    (case c51 => k_is)
    (case k51 => k_is)
    (case a52 => k_is)
    (case l52 => k_is)
    (case c52 => k_is)
    (case k52 => k_is)
    (case a53 => k_is)
    (case l53 => k_is)
    (case c53 => k_is)
    (case k53 => k_is)
    (case z_len => k_is)
    (case z_range => k_is)
    (case z_isinstance => k_is)
    (case z_int => k_is)
    (case z_bool => k_is)
    (case z_list => k_is)
    (case z_tuple => k_is)
    (case z_str => k_is)
    (case z_enumerate => k_is)
    (case z_reversed => k_is)
    (case z_max => k_is)
    (case z_min => k_is)
    (case z_set => k_is)
    (case z_zip => k_is)
    (case z_sorted => k_is)
    (case z_ValueError => k_is)
    (case z_LARGEST => k_is)
    (case e_NotPrime => k_is)
    (case e_BadRow => k_is)
    (case e_BadSpot => k_is)
    (case e_NoDivisor => k_is)
    (case e_SameSpot => k_is)
    (case e_TooMany => k_is)
    (case e_Enough => k_is)
    (case e_AllRoots => k_is)
    (case e_ClothError => k_is)
    (case x_NotPrime => k_exc)
    (case x_BadRow => k_exc)
    (case x_BadSpot => k_exc)
    (case x_NoDivisor => k_exc)
    (case x_SameSpot => k_exc)
    (case x_TooMany => k_exc)
    (case x_Enough => k_exc)
    (case x_AllRoots => k_exc)
    (case x_tab => kernel_rfl)
#print axioms PySem.Challenge.cw_primecloth_k14_refused_holds
