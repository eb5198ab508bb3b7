import PyProof.Rows.All
import Wide.All
import OpenK.AllK
import Wide.FinOn
import PyProof.EqAt
import PyProof.EqKinds
import PyProof.TupleCall
import KE.BitLaws
import Open.SpecLaws
import KE.OsHead
import KE.OsGo
import PySem.Challenge.RW_planebook_s14_fixed
section
set_option Elab.async false
set_option linter.all false
set_option maxRecDepth 100000
namespace L2
open PySem PySem.Spec PyProof.Rows
abbrev Key := Sum Int Str
def keyIs : Key → Value → Bool
  | .inl k, v => Value.isInt k v
  | .inr x, v => Value.isStrOf x v
def keyH (w : World) : Key → Int
  | .inl k => hashInt k
  | .inr x => hashStr w x
theorem keyIs_shape : ∀ {k : Key} {v : Value}, keyIs k v = true → (∃ i t, k = Sum.inl i ∧ v = Value.int i t) ∨ (∃ x t, k = Sum.inr x ∧ v = Value.str x t)
  | .inl i, v, h => by
    obtain ⟨t, e⟩ := Value.isInt_shape (k := i) (v := v) h
    exact .inl ⟨i, t, rfl, e⟩
  | .inr x, v, h => by
    obtain ⟨t, e⟩ := Value.isStrOf_shape (x := x) (v := v) h
    exact .inr ⟨x, t, rfl, e⟩
theorem key_ll (a b : Int) : decide ((Sum.inl a : Key) = Sum.inl b) = (a == b) := by
  by_cases e : a = b
  · subst e; simp
  · have h : ¬ (Sum.inl a : Key) = Sum.inl b := fun q => e (Sum.inl.inj q)
    rw [decide_eq_false h]
    exact (beq_eq_false_iff_ne.mpr e).symm
theorem key_rr (a b : Str) : decide ((Sum.inr a : Key) = Sum.inr b) = decide (a = b) := by
  by_cases e : a = b
  · subst e; simp
  · have h : ¬ (Sum.inr a : Key) = Sum.inr b := fun q => e (Sum.inr.inj q)
    rw [decide_eq_false h, decide_eq_false e]
theorem key_lr (a : Int) (b : Str) : decide ((Sum.inl a : Key) = Sum.inr b) = false := decide_eq_false (fun q => nomatch q)
theorem key_rl (a : Str) (b : Int) : decide ((Sum.inr a : Key) = Sum.inl b) = false := decide_eq_false (fun q => nomatch q)
def mixKind (prog : Program) (w : World) : PySem.KeyKind prog w Key where
  is := keyIs
  hash := keyH w
  inj := fun v a b ha hb => by
    rcases keyIs_shape ha with ⟨i, t, rfl, rfl⟩ | ⟨x, t, rfl, rfl⟩
    · rcases keyIs_shape hb with ⟨j, u, rfl, e⟩ | ⟨y, u, rfl, e⟩
      · injection e with e1 _; rw [e1]
      · exact nomatch e
    · rcases keyIs_shape hb with ⟨j, u, rfl, e⟩ | ⟨y, u, rfl, e⟩
      · exact nomatch e
      · injection e with e1 _; rw [e1]
  byValue := fun k v h => by
    rcases keyIs_shape h with ⟨i, t, rfl, rfl⟩ | ⟨x, t, rfl, rfl⟩ <;> rfl
  pyHash := fun hv h => by
    rcases keyIs_shape hv with ⟨i, t, rfl, rfl⟩ | ⟨x, t, rfl, rfl⟩
    · exact wpAny_pyHash_int h
    · exact wpAny_pyHash_str h
  eqBool := fun hu hv h => by
    rcases keyIs_shape hu with ⟨i, t, rfl, rfl⟩ | ⟨x, t, rfl, rfl⟩
    · rcases keyIs_shape hv with ⟨j, u, rfl, rfl⟩ | ⟨y, u, rfl, rfl⟩
      · rw [key_ll] at h; exact wpAny_eqBool_int h
      · rw [key_lr] at h; exact SeqAt.EqAt.int_str i t y u _ _ _ _ h
    · rcases keyIs_shape hv with ⟨j, u, rfl, rfl⟩ | ⟨y, u, rfl, rfl⟩
      · rw [key_rl] at h; exact SeqAt.EqAt.str_int x t j u _ _ _ _ h
      · rw [key_rr] at h; exact wpAny_eqBool_str h
  «strs» := fun k x t v h => by
    rcases keyIs_shape h with ⟨i, u, rfl, e⟩ | ⟨y, u, rfl, e⟩
    · exact nomatch e
    · injection e with e1 _
      subst e1
      cases v <;> rfl
end L2
namespace L2
open PySem PySem.Spec PyProof.Rows
inductive V where
  | non | bl (b : Bool) | int (i : Int) | str (x : Str) | byt (b : Array UInt8) | flt (b : UInt64) | ref (a : Addr) | ty (n : String)
  deriving DecidableEq
def RelV : V → Value → Prop
  | .non, u => u = Value.none
  | .bl b, u => u = Value.bool b
  | .int i, u => ∃ t, u = Value.int i t
  | .str x, u => ∃ t, u = Value.str x t
  | .byt b, u => ∃ t, u = Value.bytes b t
  | .flt b, u => ∃ t, u = Value.float b t
  | .ref a, u => u = Value.ref a
  | .ty n, u => u = Value.type n
abbrev Vals : List V → List Value → Prop := Paired RelV
theorem Vals.length {xs : List V} {us : List Value} (r : Vals xs us) : xs.length = us.length := Paired.length r
theorem Vals.get : ∀ {xs : List V} {us : List Value} {i : Nat} {x : V}, Vals xs us → xs[i]? = some x → ∃ u, us[i]? = some u ∧ RelV x u
  | _, _, _, _, .nil, e => by simp at e
  | _, _, 0, _, .cons r _, e => by simp at e; subst e; exact ⟨_, rfl, r⟩
  | _, _, i + 1, x, .cons _ t, e => by
    obtain ⟨u, h1, h2⟩ := Vals.get (i := i) (x := x) t (by simpa using e)
    exact ⟨u, by simpa using h1, h2⟩
theorem Vals.set {x : V} {u : Value} (r : RelV x u) : ∀ {xs : List V} {us : List Value} (i : Nat), Vals xs us → Vals (xs.set i x) (us.set i u)
  | _, _, _, .nil => .nil
  | _, _, 0, .cons _ t => .cons r t
  | _, _, i + 1, .cons q t => .cons q (Vals.set r i t)
theorem Vals.append : ∀ {xs ys : List V} {us ws : List Value}, Vals xs us → Vals ys ws → Vals (xs ++ ys) (us ++ ws)
  | _, _, _, _, .nil, s => s
  | _, _, _, _, .cons r t, s => .cons r (Vals.append t s)
theorem Vals.take : ∀ {xs : List V} {us : List Value} (n : Nat), Vals xs us → Vals (xs.take n) (us.take n)
  | _, _, 0, _ => .nil
  | _, _, _ + 1, .nil => .nil
  | _, _, n + 1, .cons r t => .cons r (Vals.take n t)
theorem Vals.drop : ∀ {xs : List V} {us : List Value} (n : Nat), Vals xs us → Vals (xs.drop n) (us.drop n)
  | _, _, 0, r => r
  | _, _, _ + 1, .nil => .nil
  | _, _, n + 1, .cons _ t => Vals.drop n t
def RelO : Option V → Option Value → Prop
  | some v, some u => RelV v u
  | none, none => True
  | _, _ => False
def KV {κ : Type} : List (κ × V) → List (κ × Value) → Prop := Paired fun (p : κ × V) (q : κ × Value) => p.1 = q.1 ∧ RelV p.2 q.2
def kV : Key → V
  | .inl i => .int i
  | .inr x => .str x
inductive HO where
  | lst (xs : List V)
  | tup (xs : List V)
  | dK (kvs : List (Key × V)) | dT (kvs : List (List Key × V))
  | set (S : Int → Bool) (n : Nat)
  | ins (C dx : Addr) (fs : List (Str × V))
  | own (x : Addr)
  | xd (fs : List (Str × V))
  | met (f x : Addr)
  | rng (lo hi : Int)
  | frz (o : Obj) (u : HO)
  | tbl (ps : Array Value)
  | ext (φ : Heap → Prop)
abbrev Hp := Addr → Option HO
def upd (H : Hp) (a : Addr) (o : HO) : Hp := fun b => if b = a then some o else H b
theorem upd_same {H : Hp} {a : Addr} {o : HO} : upd H a o a = some o := by unfold upd; rw [if_pos rfl]
theorem upd_ne {H : Hp} {a b : Addr} {o : HO} (h : b ≠ a) : upd H a o b = H b := by unfold upd; rw [if_neg h]
theorem ne_of_none {H : Hp} {a b : Addr} {o : HO} (h : H a = some o) (h' : H b = none) : a ≠ b := by
  intro e; subst e; rw [h] at h'; cases h'
section
variable (P : Program) (w : World)
def ObjOk (H : Hp) (h : Heap) (a : Addr) : HO → Prop
  | .lst xs => xs.length ≤ sizeLine ∧ ∃ (its : List Value) (n : Nat), Vals xs its ∧ h.get? a = some { cls := .type "list", data := .seq its.toArray n }
  | .tup xs => xs.length ≤ sizeLine ∧ ∃ its : List Value, Vals xs its ∧ IsTup h a its.toArray
  | .dK kvs => kvs.length ≤ sizeLine ∧ (a == sysModules) = false ∧ ∃ vs, KV kvs vs ∧ h.DictOf (mixKind P w) a vs
  | .dT kvs => kvs.length ≤ sizeLine ∧ (a == sysModules) = false ∧ ∃ xs : List (List Key × Addr × Value),
      Paired (fun (p : List Key × V) (q : List Key × Addr × Value) => p.1 = q.1 ∧ H q.2.1 = some (.tup (p.1.map kV)) ∧ RelV p.2 q.2.2) kvs xs ∧
      ∃ o es ep, h.get? a = some o ∧ o.ExactDict ∧ o.data = .dict es ep ∧ es.toList = xs.map (entryOfKey (tupleKind (mixKind P w))) ∧ (xs.map (·.1)).Nodup
  | .set S n => h.SetOf (intKind P w) a S n
  | .ins C dx fs => H dx = some (.own a) ∧ fs.length ≤ 1000 ∧ dx ≠ a ∧ h.get? a = some (PySem.W.instObj C dx) ∧
      ∃ mA, h.Ns1 dx mA ∧ (∀ f, RelO (fs.lookup f) (mA f)) ∧ PySem.Within mA (fs.map (·.1))
  | .own _ => ∃ o, h.get? a = some o
  | .xd fs => ∃ mA, h.Ns1 a mA ∧ ∀ f, RelO (fs.lookup f) (mA f)
  | .rng lo hi => ∃ t u v, h.get? a = some { cls := .type "range", data := .fields #[.int lo t, .int hi u, .int 1 v] }
  | .frz o u => h.get? a = some o ∧ ObjOk H h a u
  | .tbl ps => h.get? a = some { cls := .none, data := .fields ps }
  | .met f x => h.get? a = some (PySem.W.methodObj (.ref f) (.ref x))
  | .ext φ => φ h ∧ (∃ o, h.get? a = some o) ∧ ∀ h1 h2 : Heap, φ h1 → (∀ o, h1.get? a = some o → h2.get? a = some o) → φ h2
def HOk (H : Hp) (h : Heap) : Prop := ∀ a o, H a = some o → ObjOk P w H h a o
end
section
variable {P : Program} {w : World} {H H' : Hp} {h h' : Heap} {a : Addr} {o : HO}
theorem ObjOk.lt (x : ObjOk P w H h a o) : a < h.objs.size := by
  cases o with
  | lst xs => obtain ⟨_, _, _, _, e⟩ := x; exact Heap.lt_size e
  | tup xs => obtain ⟨_, _, _, p⟩ := x; exact p.lt
  | dK kvs => obtain ⟨_, _, _, _, o, _, _, e, _⟩ := x; exact Heap.lt_size e
  | dT kvs => obtain ⟨_, _, _, _, o, _, _, e, _⟩ := x; exact Heap.lt_size e
  | set S n => obtain ⟨o, _, _, _, e, _⟩ := x; exact Heap.lt_size e
  | ins C dx fs => obtain ⟨_, _, _, e, _⟩ := x; exact Heap.lt_size e
  | own y => obtain ⟨_, e⟩ := x; exact Heap.lt_size e
  | xd fs => obtain ⟨_, ⟨_, _, _, e, _⟩, _⟩ := x; exact Heap.lt_size e
  | rng lo hi => obtain ⟨_, _, _, e⟩ := x; exact Heap.lt_size e
  | frz ob u => obtain ⟨e, _⟩ := x; exact Heap.lt_size e
  | tbl ps => exact Heap.lt_size (show h.get? a = some _ from x)
  | met f y => exact Heap.lt_size (show h.get? a = some _ from x)
  | ext φ => obtain ⟨_, ⟨_, e⟩, _⟩ := x; exact Heap.lt_size e
theorem Paired.mapP {α β : Type} {F G : α → β → Prop} : ∀ {l₁ : List α} {l₂ : List β}, Paired F l₁ l₂ → (∀ a b, F a b → G a b) → Paired G l₁ l₂
  | _, _, .nil, _ => .nil
  | _, _, .cons r t, f => .cons (f _ _ r) (Paired.mapP t f)
theorem ObjOk.stay (x : ObjOk P w H h a o) (k : ∀ b u, (b = a ∨ H b = some (.own a)) → h.get? b = some u → h'.get? b = some u)
    (ho : ∀ b, H b = some (.own a) → H' b = some (.own a)) (ht : ∀ b xs, H b = some (.tup xs) → H' b = some (.tup xs)) : ObjOk P w H' h' a o := by
  induction o with
  | lst xs => obtain ⟨z, its, n, r, e⟩ := x; exact ⟨z, its, n, r, k _ _ (.inl rfl) e⟩
  | tup xs => obtain ⟨z, its, r, ob, e, c⟩ := x; exact ⟨z, its, r, ob, k _ _ (.inl rfl) e, c⟩
  | dK kvs => obtain ⟨z, y, vs, r, ob, es, ep, e, c⟩ := x; exact ⟨z, y, vs, r, ob, es, ep, k _ _ (.inl rfl) e, c⟩
  | dT kvs =>
    obtain ⟨z, y, xs, r, ob, es, ep, e, c⟩ := x
    exact ⟨z, y, xs, Paired.mapP r fun p q z => ⟨z.1, ht _ _ z.2.1, z.2.2⟩, ob, es, ep, k _ _ (.inl rfl) e, c⟩
  | set S n => obtain ⟨ob, es, ep, t, e, c⟩ := x; exact ⟨ob, es, ep, t, k _ _ (.inl rfl) e, c⟩
  | ins C dx fs =>
    obtain ⟨d, z, ne, e, mA, ⟨od, es, ep, e2, c⟩, r⟩ := x
    exact ⟨ho _ d, z, ne, k _ _ (.inl rfl) e, mA, ⟨od, es, ep, k _ _ (.inr d) e2, c⟩, r⟩
  | own y => obtain ⟨ob, e⟩ := x; exact ⟨ob, k _ _ (.inl rfl) e⟩
  | xd fs => obtain ⟨mA, ⟨od, es, ep, e, c⟩, r⟩ := x; exact ⟨mA, ⟨od, es, ep, k _ _ (.inl rfl) e, c⟩, r⟩
  | rng lo hi => obtain ⟨t, u, v, e⟩ := x; exact ⟨t, u, v, k _ _ (.inl rfl) e⟩
  | frz ob u ih => obtain ⟨e, q⟩ := x; exact ⟨k _ _ (.inl rfl) e, ih q⟩
  | tbl ps =>
    have e : h.get? a = some { cls := .none, data := .fields ps } := x
    show h'.get? a = some { cls := .none, data := .fields ps }
    exact k a _ (.inl rfl) e
  | met f y =>
    have e : h.get? a = some (PySem.W.methodObj (.ref f) (.ref y)) := x
    show h'.get? a = some (PySem.W.methodObj (.ref f) (.ref y))
    exact k a _ (.inl rfl) e
  | ext φ => obtain ⟨p, ⟨o, e⟩, st⟩ := x; exact ⟨st _ _ p fun o q => k _ _ (.inl rfl) q, ⟨o, k _ _ (.inl rfl) e⟩, st⟩
theorem HOk.lt (x : HOk P w H h) (e : H a = some o) : a < h.objs.size := (x a o e).lt
theorem HOk.fresh (x : HOk P w H h) (e : h.objs.size ≤ a) : H a = none := by
  cases q : H a with
  | none => rfl
  | some u => exact absurd (Nat.lt_of_lt_of_le (x.lt q) e) (Nat.lt_irrefl _)
theorem HOk.kept (x : HOk P w H h) (k : ∀ b u, h.get? b = some u → h'.get? b = some u) : HOk P w H h' := fun a o e =>
  (x a o e).stay (fun b u _ q => k b u q) (fun _ q => q) fun _ _ q => q
theorem HOk.laid (x : HOk P w H h) (k : ∀ b u, h.get? b = some u → h'.get? b = some u) (hp : h.objs.size ≤ a) (new : ObjOk P w (upd H a o) h' a o) : HOk P w (upd H a o) h' := fun b u e => by
  have hn := x.fresh hp
  by_cases hb : b = a
  · subst hb; rw [upd_same] at e; cases e; exact new
  · rw [upd_ne hb] at e
    exact (x b u e).stay (fun c v _ q => k c v q) (fun c q => by rw [upd_ne (ne_of_none q hn)]; exact q) fun c xs q => by rw [upd_ne (ne_of_none q hn)]; exact q
end
def Rd (H : Hp) (a : Addr) (u : HO) : Prop := H a = some u ∨ ∃ o, H a = some (.frz o u)
theorem Rd.of {H : Hp} {a : Addr} {u : HO} (h : H a = some u) : Rd H a u := .inl h
theorem Rd.ok {P : Program} {w : World} {H : Hp} {h : Heap} {a : Addr} {u : HO} (r : Rd H a u) (x : HOk P w H h) : ObjOk P w H h a u := by
  rcases r with r | ⟨o, r⟩
  · exact x a u r
  · obtain ⟨_, q⟩ := x a _ r
    exact q
def Mut : Option HO → Prop
  | some (.lst _) => True
  | some (.dK _) => True
  | some (.dT _) => True
  | some (.set _ _) => True
  | some (.ins _ _ _) => True
  | some (.ext _) => True
  | _ => False
section
variable {P : Program} {w : World} {H : Hp} {h h' : Heap} {x e : Addr} {o' : HO}
theorem HOk.write (ok : HOk P w H h) (mu : Mut (H x)) (he : e = x ∨ H e = some (.own x)) (k : ∀ b u, b ≠ e → h.get? b = some u → h'.get? b = some u) (heo : ∃ u, h'.get? e = some u)
    (new : ObjOk P w (upd H x o') h' x o') : HOk P w (upd H x o') h' := fun b u q => by
  have nown : ∀ c y, H c = some (.own y) → c ≠ x := fun c y r z => by subst z; rw [r] at mu; exact mu
  have ntup : ∀ c xs, H c = some (.tup xs) → c ≠ x := fun c xs r z => by subst z; rw [r] at mu; exact mu
  by_cases hb : b = x
  · subst hb; rw [upd_same] at q; cases q; exact new
  · rw [upd_ne hb] at q
    by_cases hbe : b = e
    · have q' : H b = some (.own x) := by
        rcases he with z | z
        · exact absurd (hbe.trans z) hb
        · rw [hbe]; exact z
      rw [q] at q'; cases q'
      obtain ⟨v, hv⟩ := heo
      exact ⟨v, by rw [hbe]; exact hv⟩
    · refine (ok b u q).stay (fun c v hc r => k c v ?_ r) (fun c r => by rw [upd_ne (nown c b r)]; exact r) fun c xs r => by rw [upd_ne (ntup c xs r)]; exact r
      rcases hc with rfl | hc
      · exact hbe
      · rintro rfl
        rcases he with z | z
        · exact nown c b hc z
        · rw [hc] at z; cases z; exact hb rfl
end
structure Un (fs ex : List Addr) (H H' : Hp) (h h' : Heap) : Prop where
  keep : ∀ b o, h.get? b = some o → H b = none → b ∉ fs → b ∉ ex → h'.get? b = some o
  slot : ∀ b o, h.get? b = some o → H b = none → b ∈ fs → b ∉ ex → ∃ sl, h'.get? b = some { o with slots := sl }
  free : ∀ b o, h.get? b = some o → H b = none → b ∉ ex → H' b = none
  there : ∀ b o, h.get? b = some o → b ∉ ex → ∃ o', h'.get? b = some o'
  tups : ∀ b xs, H b = some (.tup xs) → H' b = some (.tup xs)
  frzs : ∀ b o u, H b = some (.frz o u) → H' b = some (.frz o u)
  tbls : ∀ b ps, H b = some (.tbl ps) → ∃ more, H' b = some (.tbl (ps ++ more))
section
variable {fs fs' ex ex' : List Addr} {H H1 H2 : Hp} {h h1 h2 h' : Heap} {a x e : Addr} {o : HO}
theorem Un.any (u : Un fs ex H H1 h h1) {b : Addr} {ob : Obj} (q : h.get? b = some ob) (n : H b = none) (hx : b ∉ ex) : ∃ sl, h1.get? b = some { ob with slots := sl } := by
  by_cases hb : b ∈ fs
  · exact u.slot b ob q n hb hx
  · exact ⟨ob.slots, u.keep b ob q n hb hx⟩
theorem Un.trans (a : Un fs ex H H1 h h1) (b : Un fs ex H1 H2 h1 h2) : Un fs ex H H2 h h2 where
  keep := fun c ob q n hc hx => b.keep c ob (a.keep c ob q n hc hx) (a.free c ob q n hx) hc hx
  slot := fun c ob q n hc hx => by
    obtain ⟨sl, e1⟩ := a.slot c ob q n hc hx
    obtain ⟨sl', e2⟩ := b.slot c _ e1 (a.free c ob q n hx) hc hx
    exact ⟨sl', e2⟩
  free := fun c ob q n hx => by
    obtain ⟨o', e1⟩ := a.there c ob q hx
    exact b.free c o' e1 (a.free c ob q n hx) hx
  there := fun c ob q hx => by
    obtain ⟨o', e1⟩ := a.there c ob q hx
    exact b.there c o' e1 hx
  tups := fun c xs q => b.tups c xs (a.tups c xs q)
  frzs := fun c ob xs q => b.frzs c ob xs (a.frzs c ob xs q)
  tbls := fun c ps q => by
    obtain ⟨m1, e1⟩ := a.tbls c ps q
    obtain ⟨m2, e2⟩ := b.tbls c _ e1
    exact ⟨m1 ++ m2, by rw [e2, Array.append_assoc]⟩
theorem Un.kept (k : ∀ b u, h.get? b = some u → h'.get? b = some u) : Un fs ex H H h h' :=
  ⟨fun b ob q _ _ _ => k b ob q, fun b ob q _ _ _ => ⟨ob.slots, k b ob q⟩, fun _ _ _ n _ => n, fun b ob q _ => ⟨ob, k b ob q⟩, fun _ _ q => q, fun _ _ _ q => q, fun _ ps q => ⟨#[], by rw [q]; simp⟩⟩
theorem Un.refl : Un fs ex H H h h := Un.kept fun _ _ q => q
theorem Un.laid (k : ∀ b u, h.get? b = some u → h'.get? b = some u) (hp : h.objs.size ≤ a) (hn : H a = none) : Un fs ex H (upd H a o) h h' where
  keep := fun b u q _ _ _ => k b u q
  slot := fun b u q _ _ _ => ⟨u.slots, k b u q⟩
  free := fun b u q n _ => by rw [upd_ne (Nat.ne_of_lt (Nat.lt_of_lt_of_le (Heap.lt_size q) hp))]; exact n
  there := fun b u q _ => ⟨u, k b u q⟩
  tups := fun b xs q => by rw [upd_ne (ne_of_none q hn)]; exact q
  frzs := fun b u xs q => by rw [upd_ne (ne_of_none q hn)]; exact q
  tbls := fun b ps q => ⟨#[], by rw [upd_ne (ne_of_none q hn), q]; simp⟩
theorem Un.write (mu : Mut (H x)) (he : e = x ∨ H e = some (.own x)) (k : ∀ b u, b ≠ e → h.get? b = some u → h'.get? b = some u) (heo : ∃ u, h'.get? e = some u) : Un fs ex H (upd H x o) h h' := by
  have hx : ∀ b, H b = none → b ≠ x := fun b n z => by subst z; rw [n] at mu; exact mu
  have hb : ∀ b, H b = none → b ≠ e := fun b n z => by
    subst z
    rcases he with r | r
    · exact hx b n r
    · rw [n] at r; cases r
  have hm : ∀ b u, H b = some u → ¬ Mut (some u) → b ≠ x := fun b u q nm z => by subst z; rw [q] at mu; exact nm mu
  refine ⟨fun b u q n _ _ => k b u (hb b n) q, fun b u q n _ _ => ⟨u.slots, k b u (hb b n) q⟩, fun b u q n _ => by rw [upd_ne (hx b n)]; exact n, fun b u q _ => ?_,
    fun b xs q => by rw [upd_ne (hm b _ q fun z => z)]; exact q, fun b u xs q => by rw [upd_ne (hm b _ q fun z => z)]; exact q, fun b ps q => ⟨#[], by rw [upd_ne (hm b _ q fun z => z), q]; simp⟩⟩
  by_cases hbe : b = e
  · subst hbe; exact heo
  · exact ⟨u, k b u hbe q⟩
theorem Un.mono (u : Un fs ex H H1 h h1) (hs : ∀ b ∈ fs, b ∈ fs') (hx : ∀ b ∈ ex, b ∈ ex') : Un fs' ex' H H1 h h1 :=
  ⟨fun b ob q n hb he => u.keep b ob q n (fun z => hb (hs b z)) fun z => he (hx b z), fun _ _ q n _ he => u.any q n fun z => he (hx _ z), fun b ob q n he => u.free b ob q n fun z => he (hx b z), fun b ob q he => u.there b ob q fun z => he (hx b z), u.tups, u.frzs, u.tbls⟩
end
def trk (h : Heap) (H : Hp) : List Addr := (List.range h.objs.size).filter fun a => (H a).isSome
def hidT (h : Heap) (H : Hp) : Heap := PySem.W.hideAll h (trk h H)
theorem hidT_size (h : Heap) (H : Hp) : (hidT h H).objs.size = h.objs.size := PySem.W.hideAll_size _ _
theorem hidT_get {h : Heap} {H : Hp} {b : Addr} {o : Obj} (e : h.get? b = some o) (n : H b = none) : (hidT h H).get? b = some o :=
  PySem.W.hideAll_get _ e fun hm => by
    have q : (H b).isSome = true := (List.mem_filter.mp hm).2
    rw [n] at q; simp at q
theorem of_hidT {h : Heap} {H : Hp} {b : Addr} {o : Obj} (e : (hidT h H).get? b = some o) : h.get? b = some o ∧ H b = none := by
  have e' : h.get? b = some o := PySem.W.of_hideAll (trk h H) e
  refine ⟨e', ?_⟩
  cases q : H b with
  | none => rfl
  | some x =>
    have hm : b ∈ trk h H := List.mem_filter.mpr ⟨List.mem_range.mpr (Heap.lt_size e'), by simp [q]⟩
    have z : (hidT h H).get? b = none := PySem.W.hideAll_none (trk h H) hm
    rw [z] at e; cases e
def allNews (g h : Heap) (L : Addr) : List (Addr × Obj) := (List.range h.objs.size).filterMap fun a => if a = L ∨ (g.get? a).isSome = true then none else (h.get? a).map fun o => (a, o)
def rest (g h : Heap) (L d : Addr) : List (Addr × Obj) := (allNews g h L).filter fun p => decide (p.1 ≠ d)
end L2
namespace L2
open PySem PySem.Spec PyProof.Rows
structure Mod (K : PySem.W.Frag) (mg : Str → Option Value) (base : Heap) : Prop where
  kin : K.In base
  glob : base.Ns mainGlobals mg
  blt : ∃ mb, base.Ns builtinsNs mb ∧ ∀ x : Str, x ≠ "__name__" → mb x = bootBuiltins x
  nolimit : base.NoLimit
structure Cx where
  prog : Program
  w : World
  K : PySem.W.Frag
  mg : Str → Option Value
  base : Heap
  A : Around
  N : List Str
  s_0 : Shared
  H_0 : Hp
  env : Env
  outer : List Env
  stack : List Env
  ex : List Addr
  fn : Str → Bool
  calm : Bool
  pn : List (Addr × Obj)
  xe : Value → Shared → Prop
def frs (l : List Env) : List Addr := l.filterMap (·.frame)
abbrev Cx.fs (X : Cx) : List Addr := frs X.outer
def Vis (sc : Scope) (x : Str) : Prop := sc.names.lookup x = some .local ∨ sc.names.lookup x = some .cell ∨ sc.names.lookup x = some .free
def Loc (sc : Scope) (x : Str) : Prop := sc.names.lookup x = some .local ∨ sc.names.lookup x = some .cell
def Look (env : Env) (h : Heap) (m : Str → Option Value) (x : Str) (u : Value) : Prop :=
  (env.kindOf x = some .local ∧ m x = some u) ∨ ((env.kindOf x = some .cell ∨ env.kindOf x = some .free) ∧ ∃ c, env.cells.lookup x = some c ∧ h.IsCell c (some u))
structure Cx.Ok (X : Cx) : Prop where
  mod : Mod X.K X.mg X.base
  kind : X.env.scope.kind = .function
  glob : X.env.globals = mainGlobals
  blt : X.env.builtins = builtinsNs
  above : X.s_0.heap.objs.size ≤ X.env.locals
  inj : ∀ x y c, X.env.cells.lookup x = some c → X.env.cells.lookup y = some c → x = y
  has : ∀ x, (X.env.kindOf x = some .cell ∨ X.env.kindOf x = some .free) → ∃ c, X.env.cells.lookup x = some c
  cab : ∀ x c, X.fn x = true → X.env.cells.lookup x = some c → X.s_0.heap.objs.size ≤ c
  hd : X.calm = true → X.A.handled = none
  frames : X.A.frames = some X.stack
  stk : X.stack = X.outer ∨ (X.stack = X.env :: X.outer ∧ X.env.frame = some X.env.locals)
  exf : ∀ b ∈ X.ex, b ≠ X.env.locals ∧ ∀ x c, X.env.cells.lookup x = some c → c ≠ b
  bs : ∀ b o, X.base.get? b = some o → X.s_0.heap.get? b = some o ∧ X.H_0 b = none
  bsz : X.base.objs.size ≤ X.s_0.heap.objs.size
  noex : ∀ b o, X.base.get? b = some o → b ∉ X.ex
  exfs : ∀ b ∈ X.ex, b ∉ X.fs
  funs : X.s_0.heap.FunFrames X.base X.outer
  frf : ∀ b ∈ X.fs, X.H_0 b = none
structure Inv (X : Cx) (pins : List (Addr × Obj)) (σ : List (Option V)) (H : Hp) (s : Shared) : Prop where
  ok : X.Ok
  os : s.os = X.s_0.os
  bare : AllBare s.gens
  base : Un X.fs X.ex X.H_0 H X.s_0.heap s.heap
  loc : ∃ m, s.heap.Ns X.env.locals m ∧ ∀ (i : Nat) (x : Str) (v : V), X.N[i]? = some x → σ[i]? = some (some v) → Vis X.env.scope x → ∃ u, RelV v u ∧ Look X.env s.heap m x u
  cell : ∀ x c, X.env.cells.lookup x = some c → ∃ v, s.heap.IsCell c v
  free : H X.env.locals = none
  freeC : ∀ x c, X.env.cells.lookup x = some c → H c = none
  pin : ∀ p ∈ X.pn ++ pins, s.heap.get? p.1 = some p.2 ∧ H p.1 = none ∧ p.1 ≠ X.env.locals ∧ p.1 ∉ X.fs ∧ ∀ v, p.2.data ≠ .cell v
  hok : HOk X.prog X.w H s.heap
  len : σ.length = X.N.length
section
variable {X : Cx} {pins : List (Addr × Obj)} {σ : List (Option V)} {H H' : Hp} {s : Shared} {h' : Heap}
theorem Cx.Ok.nofr (ok : X.Ok) {b : Addr} {o : Obj} (e : X.base.get? b = some o) : b ∉ X.fs := fun hb => by
  have := (ok.funs.mem hb).1
  rw [e] at this; cases this
theorem Inv.bs (I : Inv X pins σ H s) : ∀ b o, X.base.get? b = some o → s.heap.get? b = some o ∧ H b = none := fun b o e =>
  ⟨I.base.keep b o (I.ok.bs b o e).1 (I.ok.bs b o e).2 (I.ok.nofr e) (I.ok.noex b o e), I.base.free b o (I.ok.bs b o e).1 (I.ok.bs b o e).2 (I.ok.noex b o e)⟩
theorem Inv.bk (I : Inv X pins σ H s) : ∀ b o, X.base.get? b = some o → s.heap.get? b = some o := fun b o e => (I.bs b o e).1
theorem Inv.mod (I : Inv X pins σ H s) : Mod X.K X.mg X.base := I.ok.mod
theorem Inv.kIn (I : Inv X pins σ H s) : X.K.In s.heap := I.ok.mod.kin.keeps I.bk
theorem Inv.nolimit (I : Inv X pins σ H s) : s.heap.NoLimit := I.ok.mod.nolimit.keeps I.bk
theorem Inv.lt (I : Inv X pins σ H s) : X.env.locals < s.heap.objs.size := let ⟨_, hn, _⟩ := I.loc; hn.lt
theorem Inv.sz (I : Inv X pins σ H s) : X.s_0.heap.objs.size ≤ s.heap.objs.size := Nat.le_trans I.ok.above (Nat.le_of_lt I.lt)
theorem Inv.nofs (I : Inv X pins σ H s) {a : Addr} (h : s.heap.objs.size ≤ a) : a ∉ X.fs := fun hb => by
  obtain ⟨_, o, ho, _⟩ := I.ok.funs.mem hb
  exact absurd (Nat.lt_of_lt_of_le (Heap.lt_size ho) (Nat.le_trans I.sz h)) (Nat.lt_irrefl _)
theorem Inv.cne (I : Inv X pins σ H s) : ∀ x c, X.env.cells.lookup x = some c → c ≠ X.env.locals := fun x c e z => by
  obtain ⟨v, o, ho, hd⟩ := I.cell x c e
  obtain ⟨m, ⟨o', es, ep, ho', hd', _⟩, _⟩ := I.loc
  rw [z, ho'] at ho; cases ho; rw [hd'] at hd; cases hd
theorem Inv.funs (I : Inv X pins σ H s) : s.heap.FunFrames X.base X.outer := by
  have all : ∀ (l : List Env), (∀ b ∈ frs l, b ∈ X.fs) → X.s_0.heap.FunFrames X.base l → s.heap.FunFrames X.base l := by
    intro l
    induction l with
    | nil => intro _ _; trivial
    | cons env r ih =>
      intro hs hl
      obtain ⟨hk, ⟨L, o, hf, hn, ho, hd⟩, hr⟩ := hl
      have hL : L ∈ X.fs := hs L (by unfold frs; rw [List.filterMap_cons, hf]; exact List.mem_cons_self)
      obtain ⟨sl, e⟩ := I.base.slot L o ho (I.ok.frf L hL) hL fun z => I.ok.exfs L z hL
      exact ⟨hk, ⟨L, _, hf, hn, e, hd⟩, ih (fun b hb => hs b (by unfold frs; rw [List.filterMap_cons, hf]; exact List.mem_cons_of_mem _ hb)) hr⟩
  exact all X.outer (fun _ hb => hb) I.ok.funs
theorem Inv.stack (I : Inv X pins σ H s) : s.heap.FunFrames X.base X.stack := by
  rcases I.ok.stk with e | ⟨e, hf⟩
  · rw [e]; exact I.funs
  · rw [e]
    obtain ⟨m, hn, _⟩ := I.loc
    refine .cons (by rw [I.ok.kind]; decide) hf hn ?_ I.funs
    exact Heap.get?_none_of_le (Nat.le_trans I.ok.bsz I.ok.above)
theorem Inv.stkSub (I : Inv X pins σ H s) : ∀ b ∈ frs X.stack, b ∈ X.env.locals :: X.fs := fun b hb => by
  rcases I.ok.stk with e | ⟨e, hf⟩
  · rw [e] at hb; exact List.mem_cons_of_mem _ hb
  · rw [e] at hb
    unfold frs at hb
    rw [List.filterMap_cons, hf] at hb
    exact hb
theorem Inv.stkFree (I : Inv X pins σ H s) : ∀ b ∈ frs X.stack, H b = none := fun b hb => by
  rcases List.mem_cons.mp (I.stkSub b hb) with e | hb
  · rw [e]; exact I.free
  · obtain ⟨_, o, ho, _⟩ := I.ok.funs.mem hb
    exact I.base.free b o ho (I.ok.frf b hb) fun z => I.ok.exfs b z hb
theorem Inv.step {g' : Array GenState} {t' : Nat} {d' : Drawn} {ch : List Addr} (I : Inv X pins σ H s)
    (hch : ∀ b ∈ ch, (b ∈ X.ex ∨ X.s_0.heap.objs.size ≤ b) ∧ b ≠ X.env.locals ∧ (∀ x c, X.env.cells.lookup x = some c → c ≠ b) ∧ ∀ p ∈ X.pn ++ pins, p.1 ≠ b)
    (keep : ∀ b o, b ≠ X.env.locals → b ∉ X.fs → b ∉ ch → s.heap.get? b = some o → H b = none → h'.get? b = some o)
    (slot : ∀ b o, b ≠ X.env.locals → b ∈ X.fs → b ∉ ch → s.heap.get? b = some o → H b = none → ∃ sl, h'.get? b = some { o with slots := sl }) (free : ∀ b o, b ∉ ch → s.heap.get? b = some o → H b = none → H' b = none)
    (there : ∀ b o, b ∉ ch → s.heap.get? b = some o → ∃ o', h'.get? b = some o')
    (tups : ∀ b xs, H b = some (.tup xs) → H' b = some (.tup xs)) (frzs : ∀ b o u, H b = some (.frz o u) → H' b = some (.frz o u)) (tbls : ∀ b ps, H b = some (.tbl ps) → ∃ more, H' b = some (.tbl (ps ++ more)))
    (ns : ∀ m, s.heap.Ns X.env.locals m → h'.Ns X.env.locals m) (hok : HOk X.prog X.w H' h') (hg : AllBare g') :
    Inv X pins σ H' { s with heap := h', gens := g', drawn := d', toks := t' } := by
  have neL : ∀ b o, X.s_0.heap.get? b = some o → b ≠ X.env.locals := fun b o e => Nat.ne_of_lt (Nat.lt_of_lt_of_le (Heap.lt_size e) I.ok.above)
  have neC : ∀ b o, X.s_0.heap.get? b = some o → b ∉ X.ex → b ∉ ch := fun b o e hx hb => by
    rcases (hch b hb).1 with z | z
    · exact hx z
    · exact absurd (Nat.lt_of_lt_of_le (Heap.lt_size e) z) (Nat.lt_irrefl _)
  have cellK : ∀ x c, X.env.cells.lookup x = some c → ∀ v, s.heap.IsCell c v → h'.IsCell c v := fun x c e v ⟨o, ho, hd⟩ => by
    have nch : c ∉ ch := fun z => (hch c z).2.2.1 x c e rfl
    by_cases hc : c ∈ X.fs
    · obtain ⟨sl, q⟩ := slot c o (I.cne x c e) hc nch ho (I.freeC x c e)
      exact ⟨_, q, hd⟩
    · exact ⟨o, keep c o (I.cne x c e) hc nch ho (I.freeC x c e), hd⟩
  refine ⟨I.ok, I.os, hg, ⟨fun b o e n hb hx => ?_, fun b o e n hb hx => ?_, fun b o e n hx => ?_, fun b o e hx => ?_, fun b xs e => tups b xs (I.base.tups b xs e), fun b o xs e => frzs b o xs (I.base.frzs b o xs e), fun b ps e => ?_⟩, ?_, fun x c e => ?_, ?_, fun x c e => ?_, fun p hp => ?_, hok, I.len⟩
  · exact keep b o (neL b o e) hb (neC b o e hx) (I.base.keep b o e n hb hx) (I.base.free b o e n hx)
  · obtain ⟨sl, e1⟩ := I.base.slot b o e n hb hx
    obtain ⟨sl', e2⟩ := slot b _ (neL b o e) hb (neC b o e hx) e1 (I.base.free b o e n hx)
    exact ⟨sl', e2⟩
  · obtain ⟨o', e1⟩ := I.base.there b o e hx
    exact free b o' (neC b o e hx) e1 (I.base.free b o e n hx)
  · obtain ⟨o', e1⟩ := I.base.there b o e hx
    exact there b o' (neC b o e hx) e1
  · obtain ⟨m1, e1⟩ := I.base.tbls b ps e
    obtain ⟨m2, e2⟩ := tbls b _ e1
    exact ⟨m1 ++ m2, by rw [e2, Array.append_assoc]⟩
  · obtain ⟨m, hn, hl⟩ := I.loc
    refine ⟨m, ns m hn, fun i x v e1 e2 e3 => ?_⟩
    obtain ⟨u, r, l⟩ := hl i x v e1 e2 e3
    refine ⟨u, r, ?_⟩
    rcases l with l | ⟨k, c, e, z⟩
    · exact .inl l
    · exact .inr ⟨k, c, e, cellK x c e _ z⟩
  · obtain ⟨v, z⟩ := I.cell x c e
    exact ⟨v, cellK x c e v z⟩
  · obtain ⟨m, ⟨o, _, _, ho, _⟩, _⟩ := I.loc
    exact free _ o (fun z => (hch _ z).2.1 rfl) ho I.free
  · obtain ⟨v, o, ho, hd⟩ := I.cell x c e
    exact free c o (fun z => (hch c z).2.2.1 x c e rfl) ho (I.freeC x c e)
  · obtain ⟨e, n, ne, nf, d⟩ := I.pin p hp
    have nch : p.1 ∉ ch := fun z => (hch p.1 z).2.2.2 p hp rfl
    exact ⟨keep p.1 p.2 ne nf nch e n, free p.1 p.2 nch e n, ne, nf, d⟩
theorem Inv.un {t' : Nat} (I : Inv X pins σ H s) (u : Un X.fs [] H H' s.heap h') (hok : HOk X.prog X.w H' h') : Inv X pins σ H' { s with heap := h', toks := t' } := by
  obtain ⟨m, ⟨o, es, ep, ho, r⟩, _⟩ := id I.loc
  obtain ⟨sl, hL⟩ := u.any ho I.free (by simp)
  exact I.step (g' := s.gens) (d' := s.drawn) (ch := []) (fun _ z => nomatch z) (fun b o _ hb _ e n => u.keep b o e n hb (by simp)) (fun b o _ hb _ e n => u.slot b o e n hb (by simp)) (fun b o _ e n => u.free b o e n (by simp)) (fun b o _ e => u.there b o e (by simp)) u.tups u.frzs u.tbls (fun m' hm => by
    obtain ⟨o', es', ep', ho', r'⟩ := hm
    rw [ho] at ho'; cases ho'
    exact ⟨_, es', ep', hL, r'⟩) hok I.bare
theorem Inv.call {g' : Array GenState} {t' : Nat} {d' : Drawn} {ch : List Addr} (I : Inv X pins σ H s) (u : Un (frs X.stack) ch H H' s.heap h') (hok : HOk X.prog X.w H' h') (hg : AllBare g')
    (hch : ∀ b ∈ ch, (b ∈ X.ex ∨ X.s_0.heap.objs.size ≤ b) ∧ b ≠ X.env.locals ∧ (∀ x c, X.env.cells.lookup x = some c → c ≠ b) ∧ ∀ p ∈ X.pn ++ pins, p.1 ≠ b) :
    Inv X pins σ H' { s with heap := h', gens := g', drawn := d', toks := t' } := by
  obtain ⟨m, ⟨o, es, ep, ho, r⟩, _⟩ := id I.loc
  obtain ⟨sl, hL⟩ := u.any ho I.free fun z => (hch _ z).2.1 rfl
  exact I.step (ch := ch) hch (fun b o hL hb hc e n => u.keep b o e n (fun z => (List.mem_cons.mp (I.stkSub b z)).elim hL hb) hc) (fun b o _ _ hc e n => u.any e n hc) (fun b o hc e n => u.free b o e n hc) (fun b o hc e => u.there b o e hc) u.tups u.frzs u.tbls (fun m' hm => by
    obtain ⟨o', es', ep', ho', r'⟩ := hm
    rw [ho] at ho'; cases ho'
    exact ⟨_, es', ep', hL, r'⟩) hok hg
theorem Inv.turned {t' : Nat} {it : Addr} (I : Inv X pins σ H s) (k : ∀ b o, b ≠ it → s.heap.get? b = some o → h'.get? b = some o) (hn : H it = none) (hL : it ≠ X.env.locals)
    (h1 : it ∈ X.ex ∨ X.s_0.heap.objs.size ≤ it) (h2 : ∀ x c, X.env.cells.lookup x = some c → c ≠ it) (h3 : ∀ p ∈ X.pn ++ pins, p.1 ≠ it) : Inv X pins σ H { s with heap := h', toks := t' } := by
  have nit : ∀ b u, H b = some u → b ≠ it := fun b u e z => by rw [z, hn] at e; cases e
  refine I.step (g' := s.gens) (d' := s.drawn) (ch := [it]) (fun b hb => ?_) (fun b o _ _ hc e _ => k b o (fun z => hc (by simp [z])) e) (fun b o _ _ hc e _ => ⟨o.slots, k b o (fun z => hc (by simp [z])) e⟩) (fun _ _ _ _ n => n)
    (fun b o hc e => ⟨o, k b o (fun z => hc (by simp [z])) e⟩) (fun _ _ e => e) (fun _ _ _ e => e) (fun b ps e => ⟨#[], by rw [e]; simp⟩) (fun m hm => ?_) (fun b u e => ?_) I.bare
  · have e : b = it := by simpa using hb
    subst e
    exact ⟨h1, hL, h2, h3⟩
  · obtain ⟨o, es, ep, ho, r⟩ := hm
    exact ⟨o, es, ep, k _ o (Ne.symm hL) ho, r⟩
  · refine (I.hok b u e).stay (fun c v hc q => k c v ?_ q) (fun _ q => q) fun _ _ q => q
    rcases hc with z | z
    · rw [z]; exact nit b u e
    · exact nit c _ z
theorem Inv.tok (I : Inv X pins σ H s) (t : Nat) : Inv X pins σ H { s with toks := t } := I.un (h' := s.heap) (t' := t) Un.refl I.hok
theorem Inv.kept {t' : Nat} (I : Inv X pins σ H s) (k : ∀ b u, s.heap.get? b = some u → h'.get? b = some u) : Inv X pins σ H { s with heap := h', toks := t' } := I.un (Un.kept k) (I.hok.kept k)
theorem Inv.laid {a : Addr} {o : HO} {t' : Nat} (I : Inv X pins σ H s) (k : ∀ b u, s.heap.get? b = some u → h'.get? b = some u) (hp : s.heap.objs.size ≤ a) (new : ObjOk X.prog X.w (upd H a o) h' a o) :
    Inv X pins σ (upd H a o) { s with heap := h', toks := t' } := I.un (Un.laid k hp (I.hok.fresh hp)) (I.hok.laid k hp new)
theorem Inv.write {x e : Addr} {o : HO} {t' : Nat} (I : Inv X pins σ H s) (mu : Mut (H x)) (he : e = x ∨ H e = some (.own x)) (k : ∀ b u, b ≠ e → s.heap.get? b = some u → h'.get? b = some u) (heo : ∃ u, h'.get? e = some u)
    (new : ObjOk X.prog X.w (upd H x o) h' x o) : Inv X pins σ (upd H x o) { s with heap := h', toks := t' } := I.un (Un.write mu he k heo) (I.hok.write mu he k heo new)
theorem Inv.weak {σ' : List (Option V)} (I : Inv X pins σ H s) (hl : σ'.length = σ.length) (w : ∀ (i : Nat) v, σ'[i]? = some (some v) → σ[i]? = some (some v)) : Inv X pins σ' H s :=
  ⟨I.ok, I.os, I.bare, I.base, let ⟨m, hn, hl'⟩ := I.loc; ⟨m, hn, fun i x v e1 e2 e3 => hl' i x v e1 (w i v e2) e3⟩, I.cell, I.free, I.freeC, I.pin, I.hok, hl.trans I.len⟩
theorem Inv.pins_of {pins' : List (Addr × Obj)} (I : Inv X pins σ H s) (h : ∀ p ∈ pins', s.heap.get? p.1 = some p.2 ∧ H p.1 = none ∧ p.1 ≠ X.env.locals ∧ p.1 ∉ X.fs ∧ ∀ v, p.2.data ≠ .cell v) : Inv X pins' σ H s :=
  ⟨I.ok, I.os, I.bare, I.base, I.loc, I.cell, I.free, I.freeC, fun p hp => (List.mem_append.mp hp).elim (fun z => I.pin p (List.mem_append_left _ z)) (h p), I.hok, I.len⟩
theorem nodup_ix {N : List Str} (hN : N.Nodup) {i j : Nat} {x : Str} (a : N[i]? = some x) (b : N[j]? = some x) : i = j := by
  obtain ⟨h1, e1⟩ := List.getElem?_eq_some_iff.mp a
  obtain ⟨h2, e2⟩ := List.getElem?_eq_some_iff.mp b
  exact (List.getElem_inj hN).mp (e1.trans e2.symm)
theorem store_ok2 {M : Model} {A : Around} {E : Value → Shared → Prop} {i : Nat} {x : Str} {v : V} {u : Value} {Q : Unit → Shared → Prop} (I : Inv X pins σ H s) (hN : X.N.Nodup) (hi : X.N[i]? = some x) (hx : Loc X.env.scope x) (r : RelV v u)
    (h : ∀ s', Inv X pins (σ.set i (some v)) H s' → (∃ a, Heap.SameBut a s.heap s'.heap ∧ (a = X.env.locals ∨ X.env.cells.lookup x = some a)) → Q () s') (hf : X.fn x = true ∨ X.env.scope.names.lookup x = some .local := by first | exact .inl rfl | exact .inr rfl | assumption) : wpAny M A (storeName X.env x u) Q E s := by
  obtain ⟨m, hn, hl⟩ := id I.loc
  have hcls : (X.env.scope.kind == .class || (X.env.scope.kind == .module && X.env.locals != X.env.globals)) = false := by rw [I.ok.kind]; rfl
  have hiσ : i < σ.length := by rw [I.len]; exact (List.getElem?_eq_some_iff.mp hi).1
  have cne := I.cne
  have tracked : ∀ {a : Addr} {h' : Heap}, (∃ o, s.heap.get? a = some o ∧ H a = none) → Heap.SameBut a s.heap h' → HOk X.prog X.w H h' := fun {a h'} ha hs b ob e => by
    obtain ⟨_, _, hfree⟩ := ha
    refine (I.hok b ob e).stay (fun c w' hc q => (hs.2 c ?_).trans q) (fun _ q => q) fun _ _ q => q
    rintro rfl
    rcases hc with rfl | hc
    · rw [hfree] at e; cases e
    · rw [hfree] at hc; cases hc
  rcases hx with hk | hk
  · refine wpAny_storeName_local hk hn (fun h' hn' hs => ?_) hcls
    obtain ⟨oL, _, _, hoL, _⟩ := id hn
    refine h _ ⟨I.ok, I.os, I.bare, ⟨fun b o e n hb hx => ?_, fun b o e n hb hx => ?_, I.base.free, fun b o e hx => ?_, I.base.tups, I.base.frzs, I.base.tbls⟩, ⟨_, hn', fun j y v' e1 e2 e3 => ?_⟩, fun y c e => ?_, I.free, I.freeC, fun p hp => ?_, tracked ⟨oL, hoL, I.free⟩ hs, by simpa using I.len⟩ ⟨_, hs, .inl rfl⟩
    · exact (hs.2 b (Nat.ne_of_lt (Nat.lt_of_lt_of_le (Heap.lt_size e) I.ok.above))).trans (I.base.keep b o e n hb hx)
    · obtain ⟨sl, e1⟩ := I.base.slot b o e n hb hx
      exact ⟨sl, (hs.2 b (Nat.ne_of_lt (Nat.lt_of_lt_of_le (Heap.lt_size e) I.ok.above))).trans e1⟩
    · obtain ⟨o', e1⟩ := I.base.there b o e hx
      exact ⟨o', (hs.2 b (Nat.ne_of_lt (Nat.lt_of_lt_of_le (Heap.lt_size e) I.ok.above))).trans e1⟩
    · by_cases hj : j = i
      · subst hj
        rw [hi] at e1; cases e1
        rw [List.getElem?_set_self hiσ] at e2
        cases e2
        exact ⟨u, r, .inl ⟨hk, by simp⟩⟩
      · rw [List.getElem?_set_ne (Ne.symm hj)] at e2
        obtain ⟨u', r', q⟩ := hl j y v' e1 e2 e3
        refine ⟨u', r', ?_⟩
        rcases q with ⟨k, e⟩ | ⟨k, c, e, z⟩
        · refine .inl ⟨k, ?_⟩
          have : y ≠ x := fun e => hj (nodup_ix hN e1 (e ▸ hi))
          simp [this, e]
        · exact .inr ⟨k, c, e, z.sameBut hs (cne y c e)⟩
    · obtain ⟨w', z⟩ := I.cell y c e
      exact ⟨w', z.sameBut hs (cne y c e)⟩
    · obtain ⟨e, n, ne, nf, d⟩ := I.pin p hp
      exact ⟨(hs.2 p.1 ne).trans e, n, ne, nf, d⟩
  · have hfn : X.fn x = true := by
      rcases hf with z | z
      · exact z
      · rw [z] at hk; cases hk
    obtain ⟨c, hc⟩ := I.ok.has x (.inl hk)
    obtain ⟨w', z⟩ := I.cell x c hc
    refine wpAny_storeName_cell I.ok.kind hk hc z (fun h' hc' hs => ?_)
    obtain ⟨oc, hoc, hocd⟩ := id z
    refine h { s with heap := h' } ⟨I.ok, I.os, I.bare, ⟨fun b o e n hb hx => ?_, fun b o e n hb hx => ?_, I.base.free, fun b o e hx => ?_, I.base.tups, I.base.frzs, I.base.tbls⟩, ⟨m, hn.sameBut hs (Ne.symm (cne x c hc)), fun j y v' e1 e2 e3 => ?_⟩, fun y c' e => ?_, I.free, I.freeC, fun p hp => ?_, tracked ⟨oc, hoc, I.freeC x c hc⟩ hs, by simpa using I.len⟩ ⟨c, hs, .inr hc⟩
    · exact (hs.2 b (Nat.ne_of_lt (Nat.lt_of_lt_of_le (Heap.lt_size e) (I.ok.cab x c hfn hc)))).trans (I.base.keep b o e n hb hx)
    · obtain ⟨sl, e1⟩ := I.base.slot b o e n hb hx
      exact ⟨sl, (hs.2 b (Nat.ne_of_lt (Nat.lt_of_lt_of_le (Heap.lt_size e) (I.ok.cab x c hfn hc)))).trans e1⟩
    · obtain ⟨o', e1⟩ := I.base.there b o e hx
      exact ⟨o', (hs.2 b (Nat.ne_of_lt (Nat.lt_of_lt_of_le (Heap.lt_size e) (I.ok.cab x c hfn hc)))).trans e1⟩
    · by_cases hj : j = i
      · subst hj
        rw [hi] at e1; cases e1
        rw [List.getElem?_set_self hiσ] at e2
        cases e2
        exact ⟨u, r, .inr ⟨.inl hk, c, hc, hc'⟩⟩
      · rw [List.getElem?_set_ne (Ne.symm hj)] at e2
        obtain ⟨u', r', q⟩ := hl j y v' e1 e2 e3
        refine ⟨u', r', ?_⟩
        rcases q with q | ⟨k, c', e, z'⟩
        · exact .inl q
        · refine .inr ⟨k, c', e, z'.sameBut hs ?_⟩
          rintro rfl
          exact hj (nodup_ix hN e1 (I.ok.inj _ _ _ e hc ▸ hi))
    · by_cases hcc : c' = c
      · subst hcc; exact ⟨_, hc'⟩
      · obtain ⟨w2, z2⟩ := I.cell y c' e
        exact ⟨w2, z2.sameBut hs hcc⟩
    · obtain ⟨e, n, ne, nf, d⟩ := I.pin p hp
      refine ⟨(hs.2 p.1 ?_).trans e, n, ne, nf, d⟩
      intro q
      rw [q, hoc] at e
      have q' : oc = p.2 := Option.some.inj e
      exact d w' (by rw [← q']; exact hocd)
theorem store_ok {M : Model} {A : Around} {E : Value → Shared → Prop} {i : Nat} {x : Str} {v : V} {u : Value} {Q : Unit → Shared → Prop} (I : Inv X pins σ H s) (hN : X.N.Nodup) (hi : X.N[i]? = some x) (hx : Loc X.env.scope x) (r : RelV v u)
    (h : ∀ s', Inv X pins (σ.set i (some v)) H s' → Q () s') (hf : X.fn x = true ∨ X.env.scope.names.lookup x = some .local := by first | exact .inl rfl | exact .inr rfl | assumption) : wpAny M A (storeName X.env x u) Q E s :=
  store_ok2 I hN hi hx r (fun s' I' _ => h s' I') hf
theorem Inv.call' {s' : Shared} {ch : List Addr} (I : Inv X pins σ H s) (ho : s'.os = s.os) (u : Un (frs X.stack) ch H H' s.heap s'.heap) (hok : HOk X.prog X.w H' s'.heap) (hg : AllBare s'.gens)
    (hch : ∀ b ∈ ch, (b ∈ X.ex ∨ X.s_0.heap.objs.size ≤ b) ∧ b ≠ X.env.locals ∧ (∀ x c, X.env.cells.lookup x = some c → c ≠ b) ∧ ∀ p ∈ X.pn ++ pins, p.1 ≠ b) : Inv X pins σ H' s' := by
  obtain ⟨h', g', d', t', o'⟩ := s'
  have e : o' = s.os := ho
  subst e
  exact I.call (g' := g') (t' := t') (d' := d') u hok hg hch
end
abbrev XK := Value → Option Addr → Hp → Prop
abbrev St := List (Option V)
abbrev VK := V → Hp → Prop
abbrev TE := St → Hp → VK → Prop
abbrev TT := St → Hp → (Bool → Hp → Prop) → Prop
abbrev TA := St → Hp → (List V → Hp → Prop) → Prop
structure Ends where
  nx : St → Hp → Prop
  rt : VK
  bk : St → Hp → Prop := fun _ _ => False
  ct : St → Hp → Prop := fun _ _ => False
abbrev TS := Ends → St → Hp → Prop
def EP (X : Cx) (pins : List (Addr × Obj)) (σ : St) (Q : VK) (u : Value) (s' : Shared) : Prop := ∃ v H', Inv X pins σ H' s' ∧ RelV v u ∧ Q v H'
def TP (X : Cx) (pins : List (Addr × Obj)) (σ : St) (Q : Bool → Hp → Prop) (b : Bool) (s' : Shared) : Prop := ∃ H', Inv X pins σ H' s' ∧ Q b H'
def AP (X : Cx) (pins : List (Addr × Obj)) (σ : St) (Q : List V → Hp → Prop) (us : List Value) (s' : Shared) : Prop := ∃ vs H', Inv X pins σ H' s' ∧ Vals vs us ∧ Q vs H'
def SP (X : Cx) (pins : List (Addr × Obj)) (D : Ends) (f : Flow) (s' : Shared) : Prop :=
  match f with
  | .next => ∃ σ' H', Inv X pins σ' H' s' ∧ D.nx σ' H'
  | .brk => ∃ σ' H', Inv X pins σ' H' s' ∧ D.bk σ' H'
  | .cont => ∃ σ' H', Inv X pins σ' H' s' ∧ D.ct σ' H'
  | .ret u => ∃ v σ' H', Inv X pins σ' H' s' ∧ RelV v u ∧ D.rt v H'
def PE (X : Cx) (e : Expr) (t : TE) : Prop :=
  ∀ (pins : List (Addr × Obj)) (s : Shared) (σ : St) (H : Hp) (Q : VK), Inv X pins σ H s → t σ H Q → wpAny (model X.prog X.w) X.A (eval e X.env) (EP X pins σ Q) X.xe s
def PT (X : Cx) (e : Expr) (t : TT) : Prop :=
  ∀ (pins : List (Addr × Obj)) (s : Shared) (σ : St) (H : Hp) (Q : Bool → Hp → Prop), Inv X pins σ H s → t σ H Q → wpAny (model X.prog X.w) X.A (isTrue e X.env (eval e X.env)) (TP X pins σ Q) X.xe s
def PW (X : Cx) (e : Expr) (t : TT) : Prop :=
  ∀ (whole : Sem Value) (pins : List (Addr × Obj)) (s : Shared) (σ : St) (H : Hp) (Q : Bool → Hp → Prop), Inv X pins σ H s → t σ H Q → wpAny (model X.prog X.w) X.A (isTrue e X.env whole) (TP X pins σ Q) X.xe s
theorem PW.pt {X : Cx} {e : Expr} {t : TT} (h : PW X e t) : PT X e t := h _
def PA (X : Cx) (es : List Expr) (t : TA) : Prop :=
  ∀ (pos : Pos) (pins : List (Addr × Obj)) (s : Shared) (σ : St) (H : Hp) (Q : List V → Hp → Prop), Inv X pins σ H s → t σ H Q → wpAny (model X.prog X.w) X.A (spliced (backTo pos (starEach es X.env))) (AP X pins σ Q) X.xe s
def PS (X : Cx) (st : Stmt) (t : TS) : Prop :=
  ∀ (pins : List (Addr × Obj)) (s : Shared) (σ : St) (H : Hp) (D : Ends), Inv X pins σ H s → t D σ H → wpAny (model X.prog X.w) X.A (exec st X.env) (SP X pins D) X.xe s
def PSs (X : Cx) (st : List Stmt) (t : TS) : Prop :=
  ∀ (pins : List (Addr × Obj)) (s : Shared) (σ : St) (H : Hp) (D : Ends), Inv X pins σ H s → t D σ H → wpAny (model X.prog X.w) X.A (execs st X.env) (SP X pins D) X.xe s
theorem thn {α : Type} {t : Sem α} {Q Q' : α → Shared → Prop} {M : Model} {A : Around} {E : Value → Shared → Prop} {s : Shared} (h : wpAny M A t Q E s) (hQ : ∀ a s, Q a s → Q' a s) : wpAny M A t Q' E s := wpAny_mono h hQ fun _ _ x => x
end L2
namespace L2
open PySem PySem.Spec PyProof.Rows
section
variable {X : Cx}
def tVar (i : Nat) : TE := fun σ H Q => ∃ v, σ[i]? = some (some v) ∧ Q v H
def tC (v : V) : TE := fun _ H Q => Q v H
theorem pe_var {i : Nat} {x : Str} {pos : Pos} (hN : X.N[i]? = some x) (hv : Vis X.env.scope x) (hd : (x == ("__debug__" : Str)) = false := by decide) (hcd : (x == ("__classdict__" : Str)) = false := by decide) : PE X (.Name x pos) (tVar i) := by
  intro pins s σ H Q I h
  obtain ⟨v, e, h⟩ := h
  obtain ⟨m, hn, hl⟩ := I.loc
  obtain ⟨u, r, l⟩ := hl i x v hN e hv
  have fin : EP X pins σ Q u s := ⟨v, H, I, r, h⟩
  rcases l with ⟨hk, hm⟩ | ⟨hk, c, hc, hcell⟩
  · exact wpAny_Name (wpAny_loadName_local I.ok.kind hk hn hm fin) hd
  · rcases hk with hk | hk
    · exact wpAny_Name (wpAny_loadName_cell I.ok.kind hk hc hcell fin) hd
    · exact wpAny_Name (wpAny_loadName_free I.ok.kind hk hc hcell fin hcd) hd
theorem pe_int {i j pos} : PE X (.Constant (.int i) j pos) (tC (.int i)) := fun _ _ _ H _ I h => wpAny_Constant_int ⟨.int i, H, I.tok _, ⟨_, rfl⟩, h⟩
def Gl (X : Cx) (x : Str) : Prop := X.env.kindOf x = some .globalImplicit
theorem ld_glob {E : Value → Shared → Prop} {pins : List (Addr × Obj)} {s : Shared} {σ : St} {H : Hp} {x : Str} {u : Value} {pos : Pos} {Q : Value → Shared → Prop} (I : Inv X pins σ H s) (hg : Gl X x) (hm : X.mg x = some u) (h : Q u s)
    (hd : (x == ("__debug__" : Str)) = false := by decide) : wpAny (model X.prog X.w) X.A (eval (.Name x pos) X.env) Q E s :=
  Calls.Name_function_global I.ok.kind hg (Calls.loadGlobal_global (by rw [I.ok.glob]; exact I.mod.glob.keeps I.bk) hm h) hd
theorem ld_blt {E : Value → Shared → Prop} {pins : List (Addr × Obj)} {s : Shared} {σ : St} {H : Hp} {x : Str} {u : Value} {pos : Pos} {Q : Value → Shared → Prop} (I : Inv X pins σ H s) (hg : Gl X x) (hm : X.mg x = none) (hv : bootBuiltins x = some u) (h : Q u s)
    (hn : x ≠ "__name__" := by decide) (hd : (x == ("__debug__" : Str)) = false := by decide) : wpAny (model X.prog X.w) X.A (eval (.Name x pos) X.env) Q E s := by
  obtain ⟨mb, h1, h2⟩ := I.mod.blt
  exact Calls.Name_function_global I.ok.kind hg (Calls.loadGlobal_builtin (by rw [I.ok.glob]; exact I.mod.glob.keeps I.bk) hm (by rw [I.ok.blt]; exact h1.keeps I.bk) ((h2 x hn).trans hv) h) hd
theorem pe_glob {x : Str} {v : V} {u : Value} {pos : Pos} (hg : Gl X x) (hm : X.mg x = some u) (r : RelV v u) (hd : (x == ("__debug__" : Str)) = false := by decide) : PE X (.Name x pos) (tC v) :=
  fun _ _ _ H _ I h => ld_glob I hg hm ⟨v, H, I, r, h⟩ hd
variable {a b : Expr} {ta tb : TE} {pos : Pos}
def tB (t : TE) : TT := fun σ H Q => t σ H fun x H1 => ∃ c, x = .bl c ∧ Q c H1
theorem pt_val {e : Expr} {t : TE} (h : PE X e t) (he : ∀ whole, isTrue e X.env whole = (do let v ← whole; standAt e.pos; holding [v] (truthy v)) := by intro _; rfl) : PT X e (tB t) := by
  intro pins s σ H Q I hw
  refine isTrue_plain (thn (h pins s σ H _ I hw) fun v s1 ⟨x, H1, I1, r1, q1⟩ => ?_) (he _)
  obtain ⟨d, rfl, q⟩ := q1
  cases r1
  exact wpAny_truthy_bool ⟨H1, I1, q⟩
variable {tA tB' : TT} {rest : List Expr}
def tAnd (t u : TT) : TT := fun σ H Q => t σ H fun c H1 => if c = true then u σ H1 Q else Q false H1
def tNot (t : TT) : TT := fun σ H Q => t σ H fun c H1 => Q (!c) H1
theorem pw_and1 (ha : PT X a tA) : PW X (.BoolOp .And [a] pos) tA := by
  intro wh pins s σ H Q I h
  refine isTrue_and (thn (ha pins s σ H Q I h) fun c s1 e => ?_)
  cases c with
  | true => exact isTrue_and_nil e
  | false => exact e
theorem pw_and (ha : PT X a tA) (hb : PW X (.BoolOp .And (b :: rest) pos) tB') : PW X (.BoolOp .And (a :: b :: rest) pos) (tAnd tA tB') := by
  intro wh pins s σ H Q I h
  refine isTrue_and (thn (ha pins s σ H _ I h) fun c s1 ⟨H1, I1, q1⟩ => ?_)
  cases c with
  | true => exact hb wh pins s1 σ H1 Q I1 q1
  | false => exact ⟨H1, I1, q1⟩
theorem pt_not (ha : PT X a tA) : PT X (.UnaryOp .Not a pos) (tNot tA) := by
  intro pins s σ H Q I h
  exact isTrue_not (ha pins s σ H (fun c H1 => Q (!c) H1) I h)
def tAndV (ta tb : TE) : TE := fun σ H Q => ta σ H fun x H1 => ∃ c, x = .bl c ∧ if c = true then tb σ H1 Q else Q (.bl false) H1
theorem pe_one {op} {t : TE} (h : PE X a t) : PE X (.BoolOp op [a] pos) t := fun pins s σ H Q I hw => BoolOp_one (h pins s σ H Q I hw)
theorem pe_and (ha : PE X a ta) (hb : PE X (.BoolOp .And (b :: rest) pos) tb) : PE X (.BoolOp .And (a :: b :: rest) pos) (tAndV ta tb) := by
  intro pins s σ H Q I h
  refine BoolOp_and (thn (ha pins s σ H _ I h) fun v s1 ⟨x, H1, I1, r1, q1⟩ => ?_)
  obtain ⟨c, rfl, q1⟩ := q1
  cases r1
  refine wpAny_truthy_bool ?_
  cases c with
  | true => exact hb pins s1 σ H1 Q I1 q1
  | false => exact ⟨.bl false, H1, I1, rfl, q1⟩
def tIf (t : TT) (ta tb : TE) : TE := fun σ H Q => t σ H fun c H1 => if c = true then ta σ H1 Q else tb σ H1 Q
theorem pe_ifExp {c : Expr} (hc : PT X c tA) (ha : PE X a ta) (hb : PE X b tb) : PE X (.IfExp c a b pos) (tIf tA ta tb) := by
  intro pins s σ H Q I h
  refine wpAny_IfExp (thn (hc pins s σ H _ I h) fun d s1 ⟨H1, I1, q1⟩ => ?_)
  cases d with
  | true => exact ha pins s1 σ H1 Q I1 q1
  | false => exact hb pins s1 σ H1 Q I1 q1
end
end L2
namespace L2
open PySem PySem.Spec PyProof.Rows
def SqL (K : PySem.W.Frag) (H : Hp) (a : Addr) (xs : List V) : Prop :=
  Rd H a (.lst xs) ∨
    ∃ (o : Obj) (its : Array Value) (n : Nat), K.lookup a = some o ∧ o.cls = .type "list" ∧ o.dict = none ∧ o.data = .seq its n ∧ its.size ≤ sizeLine ∧ Vals xs its.toList
def SqT (K : PySem.W.Frag) (H : Hp) (a : Addr) (xs : List V) : Prop :=
  Rd H a (.tup xs) ∨
    ∃ (o : Obj) (its : Array Value) (n : Nat), K.lookup a = some o ∧ o.cls = .type "tuple" ∧ o.data = .seq its n ∧ its.size ≤ sizeLine ∧ Vals xs its.toList
def absV : Value → Option V
  | .none => some .non
  | .bool b => some (.bl b)
  | .int i _ => some (.int i)
  | .str x _ => some (.str x)
  | .bytes b _ => some (.byt b)
  | .float b _ => some (.flt b)
  | .ref a => some (.ref a)
  | .type n => some (.ty n)
  | _ => none
theorem RelV.abs {x : V} {u : Value} (r : RelV x u) : absV u = some x := by
  cases x with
  | non => cases r; rfl
  | bl _ => cases r; rfl
  | int _ => obtain ⟨t, rfl⟩ := r; rfl
  | str _ => obtain ⟨t, rfl⟩ := r; rfl
  | byt _ => obtain ⟨t, rfl⟩ := r; rfl
  | flt _ => obtain ⟨t, rfl⟩ := r; rfl
  | ref _ => cases r; rfl
  | ty _ => cases r; rfl
theorem RelV.inj {x y : V} {u : Value} (r : RelV x u) (q : RelV y u) : x = y := Option.some.inj (r.abs.symm.trans q.abs)
theorem Vals.inj : ∀ {xs ys : List V} {us : List Value}, Vals xs us → Vals ys us → xs = ys
  | _, _, _, .nil, .nil => rfl
  | _, _, _, .cons r t, .cons r' t' => by rw [r.inj r', Vals.inj t t']
section
variable {X : Cx} {pins : List (Addr × Obj)} {σ : St} {H : Hp} {s : Shared} {a : Addr} {xs ys : List V}
theorem SqL.of {K : PySem.W.Frag} (h : H a = some (.lst xs)) : SqL K H a xs := .inl (.inl h)
theorem SqT.of {K : PySem.W.Frag} (h : H a = some (.tup xs)) : SqT K H a xs := .inl (.inl h)
theorem Inv.list (I : Inv X pins σ H s) (h : SqL X.K H a xs) : ∃ its : List Value, Vals xs its ∧ PlainL s.heap a its.toArray ∧ xs.length ≤ sizeLine := by
  rcases h with h | ⟨o, its, n, hk, hc, hd, hs, hz, r⟩
  · obtain ⟨z, its, n, r, e⟩ := h.ok I.hok
    exact ⟨its, r, ⟨_, n, e, rfl, rfl, rfl⟩, z⟩
  · refine ⟨its.toList, r, ⟨o, n, I.kIn a o hk, hc, hd, by simpa using hs⟩, ?_⟩
    have e := r.length
    simp only [Array.length_toList] at e
    omega
theorem Inv.tuple (I : Inv X pins σ H s) (h : SqT X.K H a xs) : ∃ its : List Value, Vals xs its ∧ IsTup s.heap a its.toArray ∧ xs.length ≤ sizeLine := by
  rcases h with h | ⟨o, its, n, hk, hc, hs, hz, r⟩
  · obtain ⟨z, its, r, p⟩ := h.ok I.hok
    exact ⟨its, r, p, z⟩
  · refine ⟨its.toList, r, ⟨o, I.kIn a o hk, hc, n, by simpa using hs⟩, ?_⟩
    have e := r.length
    simp only [Array.length_toList] at e
    omega
theorem Inv.list_inj (I : Inv X pins σ H s) (h : SqL X.K H a xs) (h' : SqL X.K H a ys) : xs = ys := by
  obtain ⟨its, r, ⟨o, n, e, _, _, d⟩, _⟩ := I.list h
  obtain ⟨its', r', ⟨o', n', e', _, _, d'⟩, _⟩ := I.list h'
  rw [e] at e'; cases e'
  rw [d] at d'
  injection d' with d1 _
  have : its = its' := by simpa using congrArg Array.toList d1
  subst this
  exact r.inj r'
end
abbrev Cx.wish (X : Cx) (E : Value → Shared → Prop) : Cx := { X with xe := E }
abbrev Cx.nox (X : Cx) : Cx := X.wish fun _ _ => False
theorem Cx.Ok.wish {X : Cx} (ok : X.Ok) (E : Value → Shared → Prop) : (X.wish E).Ok :=
  ⟨ok.mod, ok.kind, ok.glob, ok.blt, ok.above, ok.inj, ok.has, ok.cab, ok.hd, ok.frames, ok.stk, ok.exf, ok.bs, ok.bsz, ok.noex, ok.exfs, ok.funs, ok.frf⟩
theorem Cx.Ok.unwish {X : Cx} {E : Value → Shared → Prop} (ok : (X.wish E).Ok) : X.Ok :=
  ⟨ok.mod, ok.kind, ok.glob, ok.blt, ok.above, ok.inj, ok.has, ok.cab, ok.hd, ok.frames, ok.stk, ok.exf, ok.bs, ok.bsz, ok.noex, ok.exfs, ok.funs, ok.frf⟩
section
variable {X : Cx} {pins : List (Addr × Obj)} {σ : St} {H : Hp} {s : Shared} {E : Value → Shared → Prop}
theorem Inv.wish (I : Inv X pins σ H s) (E : Value → Shared → Prop) : Inv (X.wish E) pins σ H s := ⟨I.ok.wish E, I.os, I.bare, I.base, I.loc, I.cell, I.free, I.freeC, I.pin, I.hok, I.len⟩
theorem Inv.unwish (I : Inv (X.wish E) pins σ H s) : Inv X pins σ H s := ⟨I.ok.unwish, I.os, I.bare, I.base, I.loc, I.cell, I.free, I.freeC, I.pin, I.hok, I.len⟩
theorem SP.unwish {D : Ends} {f : Flow} {s' : Shared} (h : SP (X.wish E) pins D f s') : SP X pins D f s' := by
  cases f with
  | next => obtain ⟨σ', H', I, q⟩ := h; exact ⟨σ', H', I.unwish, q⟩
  | brk => obtain ⟨σ', H', I, q⟩ := h; exact ⟨σ', H', I.unwish, q⟩
  | cont => obtain ⟨σ', H', I, q⟩ := h; exact ⟨σ', H', I.unwish, q⟩
  | ret u => obtain ⟨v, σ', H', I, r, q⟩ := h; exact ⟨v, σ', H', I.unwish, r, q⟩
theorem PE.nox {e : Expr} {t : TE} (h : PE X.nox e t) : PE X e t := fun pins s σ H Q I hw =>
  wpAny_mono (h pins s σ H Q (I.wish _) hw) (fun _ _ ⟨v, H', I', r, q⟩ => ⟨v, H', I'.unwish, r, q⟩) fun _ _ z => False.elim z
theorem PT.nox {e : Expr} {t : TT} (h : PT X.nox e t) : PT X e t := fun pins s σ H Q I hw =>
  wpAny_mono (h pins s σ H Q (I.wish _) hw) (fun _ _ ⟨H', I', q⟩ => ⟨H', I'.unwish, q⟩) fun _ _ z => False.elim z
theorem PSs.nox {st : List Stmt} {t : TS} (h : PSs X.nox st t) : PSs X st t := fun pins s σ H D I hw =>
  wpAny_mono (h pins s σ H D (I.wish _) hw) (fun _ _ q => q.unwish) fun _ _ z => False.elim z
end
section
variable {X : Cx} {st : Stmt} {rest : List Stmt} {t u : TS} {e : Expr} {te : TE} {pos : Pos}
def tNext : TS := fun D σ H => D.nx σ H
def tSeq (t u : TS) : TS := fun D σ H => t { D with nx := u D } σ H
theorem pss_nil : PSs X [] tNext := fun _ _ σ H _ I h => wpAny_execs_nil ⟨σ, H, I, h⟩
theorem pss_cons (h1 : PS X st t) (h2 : PSs X rest u) : PSs X (st :: rest) (tSeq t u) := by
  intro pins s σ H D I h
  refine wpAny_execs_cons (thn (h1 pins s σ H { D with nx := u D } I h) fun f s1 q => ?_)
  cases f with
  | next =>
    obtain ⟨σ', H', I', q⟩ := q
    exact h2 pins s1 σ' H' D I' q
  | ret v => exact q
  | brk => exact q
  | cont => exact q
theorem pss_one (h1 : PS X st t) : PSs X [st] t := by
  intro pins s σ H D I h
  refine wpAny_execs_cons (thn (h1 pins s σ H D I h) fun f s1 q => ?_)
  cases f with
  | next => exact wpAny_execs_nil q
  | ret v => exact q
  | brk => exact q
  | cont => exact q
def tRet (te : TE) : TS := fun D σ H => te σ H D.rt
theorem ps_ret (he : PE X e te) : PS X (.Return (some e) pos) (tRet te) := by
  intro pins s σ H D I h
  exact wpAny_Return_some (thn (he pins s σ H _ I h) fun v s1 ⟨x, H1, I1, r1, q1⟩ => ⟨x, σ, H1, I1, r1, q1⟩)
def tIfS (c : TT) (t u : TS) : TS := fun D σ H => c σ H fun b H1 => if b = true then t D σ H1 else u D σ H1
theorem ps_if {c : Expr} {a b : List Stmt} {tc : TT} (hc : PT X c tc) (ha : PSs X a t) (hb : PSs X b u) : PS X (.If c a b pos) (tIfS tc t u) := by
  intro pins s σ H D I h
  refine wpAny_If (thn (hc pins s σ H _ I h) fun d s1 ⟨H1, I1, q1⟩ => ?_)
  cases d with
  | true => exact ha pins s1 σ H1 D I1 q1
  | false => exact hb pins s1 σ H1 D I1 q1
end
abbrev TG := V → St → Hp → (St → Hp → Prop) → Prop
def PG (X : Cx) (target : Expr) (t : TG) : Prop :=
  ∀ (pins : List (Addr × Obj)) (s : Shared) (σ : St) (H : Hp) (v : V) (u : Value) (Q : St → Hp → Prop), Inv X pins σ H s → RelV v u → t v σ H Q →
    wpAny (model X.prog X.w) X.A (assign target X.env u) (fun _ s' => ∃ σ' H', Inv X pins σ' H' s' ∧ Q σ' H') X.xe s
section
variable {X : Cx} {pos : Pos}
def gName (i : Nat) : TG := fun v σ H Q => Q (σ.set i (some v)) H
theorem pg_name {i : Nat} {x : Str} (hN : X.N.Nodup) (hi : X.N[i]? = some x) (hx : Loc X.env.scope x) (hf : X.fn x = true ∨ X.env.scope.names.lookup x = some .local := by first | exact .inl rfl | exact .inr rfl | assumption) : PG X (.Name x pos) (gName i) := by
  intro pins s σ H v u Q I r h
  exact wpAny_assign_Name (store_ok I hN hi hx r (fun s' I' => ⟨_, H, I', h⟩) hf)
def tAsg (te : TE) (g : TG) : TS := fun D σ H => te σ H fun x H1 => g x σ H1 D.nx
theorem ps_set {i : Nat} {x : Str} {e : Expr} {te : TE} {pos' : Pos} (hN : X.N.Nodup) (hi : X.N[i]? = some x) (hx : Loc X.env.scope x) (he : PE X e te) (hs : swapsWith e (some (.Name x pos')) pos.line X.env = pure false := by rfl) (hf : X.fn x = true ∨ X.env.scope.names.lookup x = some .local := by first | exact .inl rfl | exact .inr rfl | assumption) :
    PS X (.Assign [.Name x pos'] e pos) (tAsg te (gName i)) := by
  intro pins s σ H D I h
  refine wpAny_Assign_Name (thn (he pins s σ H _ I h) fun v s1 ⟨y, H1, I1, r1, q1⟩ => ?_) hs
  exact store_ok I1 hN hi hx r1 (fun s2 I2 => ⟨_, H1, I2, q1⟩) hf
end
section
variable {X : Cx} {pos : Pos}
end
structure It where
  go : Nat → Hp → Prop
  yld : Nat → Hp → V → Hp → Prop
  stop : Nat → Hp → Prop
def FpOk (X : Cx) (pins : List (Addr × Obj)) (H : Hp) (b : Addr) : Prop :=
  H b = none ∧ b ≠ X.env.locals ∧ b ∉ X.fs ∧ (b ∈ X.ex ∨ X.s_0.heap.objs.size ≤ b) ∧ (∀ x c, X.env.cells.lookup x = some c → c ≠ b) ∧ ∀ p ∈ X.pn ++ pins, p.1 ≠ b
theorem Inv.fpOk {X : Cx} {pins : List (Addr × Obj)} {σ : St} {H H' : Hp} {s : Shared} {b : Addr} (I : Inv X pins σ H s) (hb : s.heap.objs.size ≤ b) (hn : H' b = none) : FpOk X pins H' b := by
  refine ⟨hn, Nat.ne_of_gt (Nat.lt_of_lt_of_le I.lt hb), I.nofs hb, .inr (Nat.le_trans I.sz hb), fun x c e z => ?_, fun p hp z => ?_⟩
  · obtain ⟨v, q⟩ := I.cell x c e
    exact absurd (Nat.lt_of_lt_of_le q.lt (by rw [z]; exact hb)) (Nat.lt_irrefl _)
  · exact absurd (Nat.lt_of_lt_of_le (Heap.lt_size (I.pin p hp).1) (by rw [z]; exact hb)) (Nat.lt_irrefl _)
structure Turn (P : Program) (w : World) (K : PySem.W.Frag) (tg : Expr) (J : It) (fp : List Addr) (it : Addr) (tn : Nat → Heap → Prop) : Prop where
  mem : it ∈ fp
  obj : ∀ i h, tn i h → ∀ b ∈ fp, ∃ o, h.get? b = some o ∧ ∀ v, o.data ≠ .cell v
  keep : ∀ i h h', tn i h → (∀ b ∈ fp, ∀ o, h.get? b = some o → h'.get? b = some o) → tn i h'
  item : ∀ (X : Cx), X.prog = P → X.w = w → X.K = K → X.calm = true → ∀ (i : Nat) (pins : List (Addr × Obj)) (s : Shared) (σ : St) (H : Hp) (E : Value → Shared → Prop), Inv X pins σ H s → (∀ b ∈ fp, FpOk X pins H b) → tn i s.heap → J.go i H →
    wpAny (model P w) X.A (pyNext (.ref it)) (fun r s1 => ∃ u, r = some u ∧
      wpAny (model P w) X.A (letOwnedTupleGo tg (.ref it) u) (fun _ s2 => ∃ x H', Inv X pins σ H' s2 ∧ RelV x u ∧ J.yld i H x H' ∧ tn (i + 1) s2.heap ∧ ∀ b ∈ fp, H' b = none) E s1) E s
  done : ∀ (X : Cx), X.prog = P → X.w = w → X.K = K → X.calm = true → ∀ (i : Nat) (pins : List (Addr × Obj)) (s : Shared) (σ : St) (H : Hp) (E : Value → Shared → Prop), Inv X pins σ H s → (∀ b ∈ fp, FpOk X pins H b) → tn i s.heap → J.stop i H →
    wpAny (model P w) X.A (pyNext (.ref it)) (fun r s1 => r = none ∧ Inv X pins σ H s1) E s
  self : ∀ (A : Around) (i : Nat) (s : Shared) (Q : Value → Shared → Prop) (E : Value → Shared → Prop), tn i s.heap → Q (.ref it) s → wpAny (model P w) A (pyIter (.ref it)) Q E s
abbrev TI := St → Hp → (It → Hp → Prop) → Prop
def PIE (X : Cx) (pins : List (Addr × Obj)) (σ : St) (tg : Expr) (R : It → Hp → Prop) (itv : Value) (s2 : Shared) : Prop :=
  ∃ (it : Addr) (fp : List Addr) (tn : Nat → Heap → Prop) (J : It) (H' : Hp), itv = .ref it ∧ Inv X pins σ H' s2 ∧ Turn X.prog X.w X.K tg J fp it tn ∧ tn 0 s2.heap ∧ (∀ b ∈ fp, FpOk X pins H' b) ∧ R J H'
def PI (X : Cx) (tg iter : Expr) (wi : TI) : Prop :=
  ∀ (pins : List (Addr × Obj)) (s : Shared) (σ : St) (H : Hp) (R : It → Hp → Prop), Inv X pins σ H s → wi σ H R →
    wpAny (model X.prog X.w) X.A (eval iter X.env) (fun v s1 => wpAny (model X.prog X.w) X.A (pyIter v) (PIE X pins σ tg R) X.xe s1) X.xe s
theorem go_of {M : Model} {A : Around} {E : Value → Shared → Prop} {s : Shared} {tg : Expr} {it : Addr} {u : Value} {o : Obj} {n : String} {vs : Array Value} {Q : Unit → Shared → Prop} (ho : s.heap.get? it = some o) (hc : o.cls = .type n) (hd : o.data = .fields vs)
    (hn : ["enumerate", "zip", "dict_itemiterator", "dict_reverseitemiterator", "odict_iterator", "itertools.zip_longest", "itertools.pairwise"].contains n = false) (hQ : Q () s) : wpAny M A (letOwnedTupleGo tg (.ref it) u) Q E s := by
  unfold letOwnedTupleGo
  cases tg <;> first
    | exact wpAny_pure hQ
    | (cases u <;> first
        | exact wpAny_pure hQ
        | (refine wpAny_bind (wpAny_load ho ?_)
           rw [hc, hd]
           show wpAny M A (if (["enumerate", "zip", "dict_itemiterator", "dict_reverseitemiterator", "odict_iterator", "itertools.zip_longest", "itertools.pairwise"].contains n && vs[0]? == some (rawInt _)) = true then _ else _) Q E s
           rw [if_neg (by intro h; rw [hn, Bool.false_and] at h; cases h)]
           exact wpAny_pure hQ))
def Itl (K : PySem.W.Frag) (a : Addr) : It :=
  ⟨fun i H => ∃ xs x, SqL K H a xs ∧ xs[i]? = some x, fun i H x H' => H' = H ∧ ∀ xs, SqL K H a xs → xs[i]? = some x, fun i H => ∃ xs, SqL K H a xs ∧ xs.length ≤ i⟩
def Itr (lo : Int) (n : Nat) : It := ⟨fun i _ => i < n, fun i H x H' => H' = H ∧ x = .int (lo + i), fun i _ => n ≤ i⟩
theorem turn_list {P : Program} {w : World} {K : PySem.W.Frag} {tg : Expr} (a it : Addr) : Turn P w K tg (Itl K a) [it] it (fun i h => h.IsListIter it a i) where
  mem := by simp
  obj := fun i h st b hb => by
    have e : b = it := by simpa using hb
    subst e
    obtain ⟨o, e, c, d⟩ := st
    exact ⟨o, e, fun v z => by rw [d] at z; cases z⟩
  keep := fun i h h' st k => st.at fun o e => k it (by simp) o e
  item := by
    intro X hP hw hK hc i pins s σ H E I hf st hg
    subst hP hw hK
    obtain ⟨xs, x, hq, hx⟩ := hg
    obtain ⟨its, rv, p, hz⟩ := I.list hq
    obtain ⟨u, hu, ru⟩ := rv.get hx
    obtain ⟨f0, f1, f2, f3, f4, f5⟩ := hf it (by simp)
    refine wpAny_pyNext_list_item st p.isList (x := u) (by simpa using hu) fun h' st' sb => ?_
    have I1 : Inv X pins σ H { s with heap := h' } := I.turned (t' := s.toks) (fun b o hb e => (sb.2 b hb).trans e) f0 f1 f3 f4 f5
    obtain ⟨o, e, c, d⟩ := id st'
    exact ⟨u, rfl, go_of (s := { s with heap := h' }) e c d (by decide) ⟨x, H, I1, ru, ⟨rfl, fun ys hy => by rw [I.list_inj hy hq]; exact hx⟩, st', fun b hb => (hf b hb).1⟩⟩
  done := by
    intro X hP hw hK hc i pins s σ H E I hf st hg
    subst hP hw hK
    obtain ⟨xs, hq, hx⟩ := hg
    obtain ⟨its, rv, p, hz⟩ := I.list hq
    obtain ⟨f0, f1, f2, f3, f4, f5⟩ := hf it (by simp)
    have hl := rv.length
    exact wpAny_pyNext_list_end (I.ok.hd hc) st p.isList (by simp; omega) fun h' eb => ⟨rfl, I.turned (t' := s.toks) (fun b o hb e => eb b o hb e) f0 f1 f3 f4 f5⟩
  self := fun _ _ _ _ _ st h => wpAny_pyIter_listiter st h
theorem turn_range {P : Program} {w : World} {K : PySem.W.Frag} {tg : Expr} (it : Addr) (lo : Int) (n : Nat) : Turn P w K tg (Itr lo n) [it] it (fun i h => IsRangeIter h it (lo + (i : Nat) * 1) ((n : Int) - (i : Nat)) 1) where
  mem := by simp
  obj := fun i h st b hb => by
    have e : b = it := by simpa using hb
    subst e
    exact ⟨_, st, fun v z => by
      have z' : Data.fields _ = Data.cell v := z
      cases z'⟩
  keep := fun i h h' st k => k it (by simp) _ st
  item := by
    intro X hP hw hK hc i pins s σ H E I hf st hg
    subst hP hw hK
    obtain ⟨f0, f1, f2, f3, f4, f5⟩ := hf it (by simp)
    have W := Walks.range (prog := X.prog) (w := X.w) (I.ok.hd hc) it lo 1 n
    refine W.item i s _ _ hg st fun v h' tk hv st' kk => ?_
    obtain ⟨t, rfl⟩ := hv
    have I1 : Inv X pins σ H { s with heap := h', toks := tk } := I.turned (fun b o hb e => kk b o (by simpa using hb) e) f0 f1 f3 f4 f5
    refine ⟨_, rfl, go_of (s := { s with heap := h', toks := tk }) (n := "range_iterator") st' rfl rfl (by decide) ⟨.int (lo + i), H, I1, ⟨t, ?_⟩, ⟨rfl, rfl⟩, st', fun b hb => (hf b hb).1⟩⟩
    rw [Int.mul_one]
  done := by
    intro X hP hw hK hc i pins s σ H E I hf st hg
    subst hP hw hK
    obtain ⟨f0, f1, f2, f3, f4, f5⟩ := hf it (by simp)
    exact wpAny_pyNext_range_end (I.ok.hd hc) st (by have : n ≤ i := hg; omega) fun h' eb => ⟨rfl, I.turned (t' := s.toks) (fun b o hb e => eb b o hb e) f0 f1 f3 f4 f5⟩
  self := fun _ _ _ _ _ st h => wpAny_pyIter_rangeiter st h
end L2
namespace L2
open PySem PySem.Spec PyProof.Rows
section
variable {X : Cx} {tg : Expr}
def iList (K : PySem.W.Frag) (tl : TE) : TI := fun σ H R => tl σ H fun x H1 => ∃ a, x = .ref a ∧ (∃ xs, SqL K H1 a xs) ∧ R (Itl K a) H1
theorem pi_list {l : Expr} {tl : TE} (hl : PE X l tl) : PI X tg l (iList X.K tl) := by
  intro pins s σ H R I h
  refine thn (hl pins s σ H _ I h) fun v s1 ⟨x, H1, I1, r1, q1⟩ => ?_
  obtain ⟨a, e, ⟨xs, hq⟩, q⟩ := q1
  subst e
  cases r1
  obtain ⟨its, rv, p, hz⟩ := I1.list hq
  refine wpAny_pyIter_list p.isList ?_
  refine ⟨s1.heap.objs.size, [s1.heap.objs.size], _, _, H1, rfl, I1.kept (t' := s1.toks) fun b o e => Heap.get?_push_of_some _ e, turn_list a _, ⟨_, Heap.get?_push_size _ rfl, rfl, rfl⟩, fun b hb => ?_, q⟩
  have e : b = s1.heap.objs.size := by simpa using hb
  subst e
  exact I1.fpOk (Nat.le_refl _) (I1.hok.fresh (Nat.le_refl _))
theorem range_it {pins : List (Addr × Obj)} {σ : St} {H : Hp} {s : Shared} {R : It → Hp → Prop} {E : Value → Shared → Prop} {lo hi : Int} {t u v : Tok} {tk : Nat} (I : Inv X pins σ H s) (h1 : -(2 ^ 62) ≤ lo) (h2 : lo < 2 ^ 62) (h3 : -(2 ^ 62) ≤ hi) (h4 : hi < 2 ^ 62)
    (q : R (Itr lo (hi - lo).toNat) H) : wpAny (model X.prog X.w) X.A (pyIter (.ref s.heap.objs.size)) (PIE X pins σ tg R) E { s with heap := s.heap.push { cls := .type "range", data := .fields #[.int lo t, .int hi u, .int 1 v] }, toks := tk } := by
  refine wpAny_pyIter_range (IsRange.new ..) (small_one h1 h2 h3 h4) ?_
  have I1 : Inv X pins σ H { s with heap := s.heap.push { cls := .type "range", data := .fields #[.int lo t, .int hi u, .int 1 v] }, toks := tk } := I.kept fun b o e => Heap.get?_push_of_some _ e
  refine ⟨(s.heap.push { cls := .type "range", data := .fields #[.int lo t, .int hi u, .int 1 v] }).objs.size, [(s.heap.push { cls := .type "range", data := .fields #[.int lo t, .int hi u, .int 1 v] }).objs.size], _, _, H, rfl,
    I1.kept (t' := tk) fun b o e => Heap.get?_push_of_some _ e, turn_range _ lo (hi - lo).toNat, ?_, fun b hb => ?_, q⟩
  · have e1 : lo + ((0 : Nat) : Int) * 1 = lo := by simp
    have e2 : (((hi - lo).toNat : Nat) : Int) - ((0 : Nat) : Int) = Builtin.Range.rangeSize lo hi 1 := by rw [rangeSize_one]; split <;> omega
    show IsRangeIter _ _ (lo + ((0 : Nat) : Int) * 1) ((((hi - lo).toNat : Nat) : Int) - ((0 : Nat) : Int)) 1
    rw [e1, e2]
    exact Heap.get?_push_size _ rfl
  · have e : b = (s.heap.push { cls := .type "range", data := .fields #[.int lo t, .int hi u, .int 1 v] }).objs.size := by simpa using hb
    subst e
    exact I1.fpOk (Nat.le_refl _) (I1.hok.fresh (Nat.le_refl _))
def iRng1 (ta : TA) : TI := fun σ H R => ta σ H fun vs H1 => ∃ j : Int, vs = [.int j] ∧ -(2 ^ 62) ≤ j ∧ j < 2 ^ 62 ∧ R (Itr 0 j.toNat) H1
def iRng2 (ta : TA) : TI := fun σ H R => ta σ H fun vs H1 => ∃ i j : Int, vs = [.int i, .int j] ∧ (-(2 ^ 62) ≤ i ∧ i < 2 ^ 62 ∧ -(2 ^ 62) ≤ j ∧ j < 2 ^ 62) ∧ R (Itr i (j - i).toNat) H1
theorem pi_range1 {a : Expr} {ta : TA} {p pos : Pos} (hg : Gl X "range") (hm : X.mg "range" = none) (ha : PA X [a] ta) (hs : starEach [a] X.env = [(false, eval a X.env)] := by rfl) : PI X tg (.Call (.Name "range" p) [a] [] pos) (iRng1 ta) := by
  intro pins s σ H R I h
  refine Call_ (ld_blt I hg hm boot_range (PyProof.Rows.callWith_type1 (thn (ha pos pins s σ H _ I h) fun us s1 ⟨vs, H1, I1, r1, q1⟩ => ?_) hs rfl))
  obtain ⟨j, e, q1, q2, q⟩ := q1
  subst e
  cases r1 with
  | cons r rr =>
    cases rr
    obtain ⟨t, rfl⟩ := r
    exact call_range_1 (range_it I1 (by omega) (by omega) q1 q2 (by simpa using q))
theorem pi_range2 {a b : Expr} {ta : TA} {p pos : Pos} (hg : Gl X "range") (hm : X.mg "range" = none) (ha : PA X [a, b] ta) (hs : starEach [a, b] X.env = [(false, eval a X.env), (false, eval b X.env)] := by rfl) (hs2 : starEach [b] X.env = [(false, eval b X.env)] := by rfl) :
    PI X tg (.Call (.Name "range" p) [a, b] [] pos) (iRng2 ta) := by
  intro pins s σ H R I h
  refine Call_ (ld_blt I hg hm boot_range (PyProof.Rows.callWith_type1 (thn (ha pos pins s σ H _ I h) fun us s1 ⟨vs, H1, I1, r1, q1⟩ => ?_) (by rw [hs, hs2]) (by rw [hs2]; rfl)))
  obtain ⟨i, j, e, ⟨q1, q2, q3, q4⟩, q⟩ := q1
  subst e
  cases r1 with
  | cons r rr =>
    cases rr with
    | cons r' rr =>
      cases rr
      obtain ⟨t, rfl⟩ := r
      obtain ⟨t', rfl⟩ := r'
      exact call_range_2 (range_it I1 q1 q2 q3 q4 q)
def tFor (wi : TI) (g : TG) (tb : TS) : TS := fun D σ H => wi σ H fun J H1 => ∃ W : Nat → Nat → St → Hp → Prop, (∃ m, W 0 m σ H1) ∧ ∀ i m σ H, W i m σ H →
  (J.stop i H ∧ D.nx σ H) ∨ (J.go i H ∧ ∃ N : St → Hp → Prop, (∀ σ' H', N σ' H' → ∃ m', m' < m ∧ W (i + 1) m' σ' H') ∧ ∀ x H', J.yld i H x H' → g x σ H' fun σ2 H2 => tb { D with nx := N, ct := N, bk := D.nx } σ2 H2)
def pinsAt (fp : List Addr) (h : Heap) : List (Addr × Obj) := fp.filterMap fun b => (h.get? b).map fun o => (b, o)
theorem mem_pinsAt {fp : List Addr} {h : Heap} {b : Addr} {o : Obj} (hb : b ∈ fp) (e : h.get? b = some o) : (b, o) ∈ pinsAt fp h := List.mem_filterMap.mpr ⟨b, hb, by rw [e]; rfl⟩
theorem of_pinsAt {fp : List Addr} {h : Heap} {p : Addr × Obj} (hp : p ∈ pinsAt fp h) : p.1 ∈ fp ∧ h.get? p.1 = some p.2 := by
  obtain ⟨b, hb, e⟩ := List.mem_filterMap.mp hp
  cases q : h.get? b with
  | none => rw [q] at e; cases e
  | some o =>
    rw [q] at e
    have e' : (b, o) = p := Option.some.inj e
    subst e'
    exact ⟨hb, q⟩
theorem Inv.pinned {pins : List (Addr × Obj)} {σ : St} {H : Hp} {s : Shared} {fp : List Addr} (I : Inv X pins σ H s) (hf : ∀ b ∈ fp, FpOk X pins H b) (ho : ∀ b ∈ fp, ∃ o, s.heap.get? b = some o ∧ ∀ v, o.data ≠ .cell v) : Inv X (pins ++ pinsAt fp s.heap) σ H s :=
  I.pins_of fun p hp => (List.mem_append.mp hp).elim (fun z => I.pin p (List.mem_append_right _ z)) fun z => by
    obtain ⟨hb, e⟩ := of_pinsAt z
    obtain ⟨f0, f1, f2, _⟩ := hf p.1 hb
    obtain ⟨o, e', d⟩ := ho p.1 hb
    rw [e] at e'; cases e'
    exact ⟨e, f0, f1, f2, d⟩
theorem Inv.unpinned {pins pl : List (Addr × Obj)} {σ : St} {H : Hp} {s : Shared} (I : Inv X (pins ++ pl) σ H s) : Inv X pins σ H s := I.pins_of fun p hp => I.pin p (List.mem_append_right _ (List.mem_append_left _ hp))
theorem ps_for {iter : Expr} {body : List Stmt} {wi : TI} {g : TG} {tb : TS} {pos : Pos} (hp : PassesOwn (model X.prog X.w) X.A X.env X.xe) (hc : X.calm = true) (hi : PI X tg iter wi) (hg : PG X tg g) (hb : PSs X body tb)
    (hs : ∀ x, foldedSetIterable iter X.env x = pure x := by intro _; rfl) : PS X (.For tg iter body [] pos) (tFor wi g tb) := by
  intro pins s σ H D I h
  refine wpAny_For (thn (hi pins s σ H _ I h) fun v s1 h1 => thn h1 fun itv s2 h2 => ?_) hs
  obtain ⟨it, fp, tn, J, H2, e, I2, T, st2, f2, W, ⟨m0, w0⟩, turn⟩ := h2
  subst e
  have stat : ∀ {H' : Hp}, (∀ b ∈ fp, H' b = none) → ∀ b ∈ fp, FpOk X pins H' b := fun hn b hb => ⟨hn b hb, (f2 b hb).2⟩
  refine codeAny_forLoop_any (fun n s' => ∃ i σ' H', Inv X pins σ' H' s' ∧ tn i s'.heap ∧ (∀ b ∈ fp, H' b = none) ∧ W i n σ' H') ?_ m0 ⟨0, σ, H2, I2, st2, fun b hb => (f2 b hb).1, w0⟩
  rintro n s3 ⟨i, σ3, H3, I3, st3, fr3, w3⟩
  rcases turn i n σ3 H3 w3 with ⟨stop, qn⟩ | ⟨go, N, hN, step⟩
  · refine wpAny_passesOwn hp (thn (T.done X rfl rfl rfl hc i pins s3 σ3 H3 X.xe I3 (stat fr3) st3 stop) fun r s4 ⟨hr, I4⟩ => ?_)
    subst hr
    exact wpAny_execs_nil ⟨σ3, H3, I4, qn⟩
  · refine wpAny_passesOwn hp (thn (T.item X rfl rfl rfl hc i pins s3 σ3 H3 X.xe I3 (stat fr3) st3 go) fun r s4 ⟨u, hr, h4⟩ => ?_)
    subst hr
    refine wpAny_passesOwn hp (thn h4 fun _ s5 ⟨x, H5, I5, r5, y5, st5, fr5⟩ => ?_)
    have I5' := I5.pinned (stat fr5) (T.obj _ _ st5)
    refine wpAny_passesOwn hp (thn (hg _ s5 σ3 H5 x u _ I5' r5 (step x H5 y5)) fun _ s6 ⟨σ6, H6, I6, q6⟩ => ?_)
    refine wpAny_passesOwn hp (thn (hb _ s6 σ6 H6 _ I6 q6) fun f s7 q7 => ?_)
    have again : ∀ {σ7 : St} {H7 : Hp}, Inv X (pins ++ pinsAt fp s5.heap) σ7 H7 s7 → N σ7 H7 → ∃ m, m < n ∧ ∃ i σ' H', Inv X pins σ' H' s7 ∧ tn i s7.heap ∧ (∀ b ∈ fp, H' b = none) ∧ W i m σ' H' := fun {σ7 H7} I7 n7 => by
      obtain ⟨m', hm, w7⟩ := hN σ7 H7 n7
      refine ⟨m', hm, i + 1, σ7, H7, I7.unpinned, T.keep _ _ _ st5 fun b hb o e => (I7.pin (b, o) (List.mem_append_right _ (List.mem_append_right _ (mem_pinsAt hb e)))).1, fun b hb => ?_, w7⟩
      obtain ⟨o, e, d⟩ := T.obj _ _ st5 b hb
      exact (I7.pin (b, o) (List.mem_append_right _ (List.mem_append_right _ (mem_pinsAt hb e)))).2.1
    cases f with
    | next => obtain ⟨σ7, H7, I7, n7⟩ := q7; exact again I7 n7
    | cont => obtain ⟨σ7, H7, I7, n7⟩ := q7; exact again I7 n7
    | brk => obtain ⟨σ7, H7, I7, q7⟩ := q7; exact ⟨σ7, H7, I7.unpinned, q7⟩
    | ret v => obtain ⟨x7, σ7, H7, I7, r7, q7⟩ := q7; exact ⟨x7, σ7, H7, I7.unpinned, r7, q7⟩
end
theorem for_list {K : PySem.W.Frag} {a : Addr} {xs : List V} {g : TG} {tb : TS} {D : Ends} {σ : St} {H : Hp} (Pv : Nat → St → Hp → Prop) (h0 : Pv 0 σ H) (hl : ∀ i σ H, i ≤ xs.length → Pv i σ H → SqL K H a xs)
    (hs : ∀ i x σ H, xs[i]? = some x → Pv i σ H → g x σ H fun σ2 H2 => tb { D with nx := Pv (i + 1), ct := Pv (i + 1), bk := D.nx } σ2 H2) (hd : ∀ σ H, Pv xs.length σ H → D.nx σ H) :
    ∃ W : Nat → Nat → St → Hp → Prop, (∃ m, W 0 m σ H) ∧ ∀ i m σ H, W i m σ H →
      ((Itl K a).stop i H ∧ D.nx σ H) ∨ ((Itl K a).go i H ∧ ∃ N : St → Hp → Prop, (∀ σ' H', N σ' H' → ∃ m', m' < m ∧ W (i + 1) m' σ' H') ∧ ∀ x H', (Itl K a).yld i H x H' → g x σ H' fun σ2 H2 => tb { D with nx := N, ct := N, bk := D.nx } σ2 H2) := by
  refine ⟨fun i m σ H => m = xs.length - i ∧ i ≤ xs.length ∧ Pv i σ H, ⟨xs.length, by simp, Nat.zero_le _, h0⟩, ?_⟩
  rintro i m σ H ⟨rfl, hi, p⟩
  have q := hl i σ H hi p
  by_cases hlt : i < xs.length
  · refine .inr ⟨⟨xs, xs[i], q, by simp [hlt]⟩, Pv (i + 1), fun σ' H' p' => ⟨xs.length - (i + 1), by omega, rfl, hlt, p'⟩, fun x H' y => ?_⟩
    obtain ⟨e, y⟩ := y
    subst e
    exact hs i x σ _ (y xs q) p
  · have e : i = xs.length := by omega
    subst e
    exact .inl ⟨⟨xs, q, Nat.le_refl _⟩, hd σ H p⟩
theorem for_range {lo : Int} {n : Nat} {g : TG} {tb : TS} {D : Ends} {σ : St} {H : Hp} (Pv : Nat → St → Hp → Prop) (h0 : Pv 0 σ H)
    (hs : ∀ i σ H, i < n → Pv i σ H → g (.int (lo + i)) σ H fun σ2 H2 => tb { D with nx := Pv (i + 1), ct := Pv (i + 1), bk := D.nx } σ2 H2) (hd : ∀ σ H, Pv n σ H → D.nx σ H) :
    ∃ W : Nat → Nat → St → Hp → Prop, (∃ m, W 0 m σ H) ∧ ∀ i m σ H, W i m σ H →
      ((Itr lo n).stop i H ∧ D.nx σ H) ∨ ((Itr lo n).go i H ∧ ∃ N : St → Hp → Prop, (∀ σ' H', N σ' H' → ∃ m', m' < m ∧ W (i + 1) m' σ' H') ∧ ∀ x H', (Itr lo n).yld i H x H' → g x σ H' fun σ2 H2 => tb { D with nx := N, ct := N, bk := D.nx } σ2 H2) := by
  refine ⟨fun i m σ H => m = n - i ∧ i ≤ n ∧ Pv i σ H, ⟨n, by simp, Nat.zero_le _, h0⟩, ?_⟩
  rintro i m σ H ⟨rfl, hi, p⟩
  by_cases hlt : i < n
  · refine .inr ⟨hlt, Pv (i + 1), fun σ' H' p' => ⟨n - (i + 1), by omega, rfl, hlt, p'⟩, fun x H' y => ?_⟩
    obtain ⟨e, y⟩ := y
    subst e y
    exact hs i σ _ hlt p
  · have e : i = n := by omega
    subst e
    exact .inl ⟨Nat.le_refl _, hd σ H p⟩
end L2
namespace L2
open PySem PySem.Spec PyProof.Rows
abbrev R2 := V → V → Hp → VK → Prop
def OpR (X : Cx) (f : Value → Value → Sem Value) (r : R2) : Prop :=
  ∀ (pins : List (Addr × Obj)) (s : Shared) (σ : St) (H : Hp) (x y : V) (v u : Value) (Q : VK), Inv X pins σ H s → RelV x v → RelV y u → r x y H Q →
    wpAny (model X.prog X.w) X.A (f v u) (EP X pins σ Q) X.xe s
def UnR (X : Cx) (f : Value → Sem Value) (r : V → Hp → VK → Prop) : Prop :=
  ∀ (pins : List (Addr × Obj)) (s : Shared) (σ : St) (H : Hp) (x : V) (v : Value) (Q : VK), Inv X pins σ H s → RelV x v → r x H Q →
    wpAny (model X.prog X.w) X.A (f v) (EP X pins σ Q) X.xe s
def CallR (X : Cx) (f : Value) (r : List V → Hp → VK → Prop) : Prop :=
  ∀ (pins : List (Addr × Obj)) (s : Shared) (σ : St) (H : Hp) (xs : List V) (us : List Value) (Q : VK), Inv X pins σ H s → Vals xs us → r xs H Q →
    wpAny (model X.prog X.w) X.A (call f us) (EP X pins σ Q) X.xe s
def tOp (r : R2) (ta tb : TE) : TE := fun σ H Q => ta σ H fun x H1 => tb σ H1 fun y H2 => r x y H2 Q
def tUn (r : V → Hp → VK → Prop) (ta : TE) : TE := fun σ H Q => ta σ H fun x H1 => r x H1 Q
def rI (C : Int → Int → Prop) (g : Int → Int → V) : R2 := fun x y H Q => ∃ i j, x = .int i ∧ y = .int j ∧ C i j ∧ Q (g i j) H
def rI0 (g : Int → Int → V) : R2 := fun x y H Q => ∃ i j, x = .int i ∧ y = .int j ∧ Q (g i j) H
def rU (g : Int → V) : V → Hp → VK → Prop := fun x H Q => ∃ i, x = .int i ∧ Q (g i) H
section
variable {X : Cx} {a b c : Expr} {ta tb tc : TE} {pos : Pos}
theorem binT (ha : PE X a ta) (hb : PE X b tb) {pins : List (Addr × Obj)} {s : Shared} {σ : St} {H : Hp} {R : V → V → Hp → Prop} (I : Inv X pins σ H s)
    (h : ta σ H fun x H1 => tb σ H1 fun y H2 => R x y H2) {Q : Value → Shared → Prop} {f : Value → Value → Sem Value}
    (hf : ∀ v u s2 x y H2, Inv X pins σ H2 s2 → RelV x v → RelV y u → R x y H2 → wpAny (model X.prog X.w) X.A (f v u) Q X.xe s2) :
    wpAny (model X.prog X.w) X.A (eval a X.env) (fun v s₁ => wpAny (model X.prog X.w) X.A (eval b X.env) (fun u s₂ => wpAny (model X.prog X.w) X.A (f v u) Q X.xe s₂) X.xe s₁) X.xe s := by
  refine thn (ha pins s σ H _ I h) fun v s1 ⟨x, H1, I1, r1, q1⟩ => ?_
  refine thn (hb pins s1 σ H1 _ I1 q1) fun u s2 ⟨y, H2, I2, r2, q2⟩ => ?_
  exact hf v u s2 x y H2 I2 r1 r2 q2
theorem pe_op {op : Operator} {r : R2} (ho : OpR X (binaryOp op) r) (ha : PE X a ta) (hb : PE X b tb) : PE X (.BinOp a op b pos) (tOp r ta tb) := by
  intro pins s σ H Q I h
  exact wpAny_BinOp (binT ha hb I h fun v u s2 x y H2 I2 rx ry q => ho pins s2 σ H2 x y v u Q I2 rx ry q)
theorem pe_un {op : UnaryOp} {r : V → Hp → VK → Prop} (ho : UnR X (unaryOp op) r) (ha : PE X a ta) : PE X (.UnaryOp op a pos) (tUn r ta) := by
  intro pins s σ H Q I h
  exact UnaryOp_ (thn (ha pins s σ H _ I h) fun v s1 ⟨x, H1, I1, r1, q1⟩ => ho pins s1 σ H1 x v Q I1 r1 q1)
theorem opI {f : Value → Value → Sem Value} {C : Int → Int → Prop} {g : Int → Int → Int}
    (rule : ∀ (i j : Int) (t u : Tok) (s : Shared) (Q : Value → Shared → Prop) (E : Value → Shared → Prop), C i j → Q (.int (g i j) s.toks) { s with toks := s.toks + 1 } → wpAny (model X.prog X.w) X.A (f (.int i t) (.int j u)) Q E s) :
    OpR X f (rI C fun i j => .int (g i j)) := by
  intro pins s σ H x y v u Q I rx ry h
  obtain ⟨i, j, rfl, rfl, hc, q⟩ := h
  obtain ⟨t, rfl⟩ := rx
  obtain ⟨t', rfl⟩ := ry
  exact rule i j t t' s _ _ hc ⟨.int (g i j), H, I.tok _, ⟨_, rfl⟩, q⟩
theorem opI0 {f : Value → Value → Sem Value} {g : Int → Int → Int}
    (rule : ∀ (i j : Int) (t u : Tok) (s : Shared) (Q : Value → Shared → Prop) (E : Value → Shared → Prop), Q (.int (g i j) s.toks) { s with toks := s.toks + 1 } → wpAny (model X.prog X.w) X.A (f (.int i t) (.int j u)) Q E s) :
    OpR X f (rI0 fun i j => .int (g i j)) := by
  intro pins s σ H x y v u Q I rx ry h
  obtain ⟨i, j, rfl, rfl, q⟩ := h
  obtain ⟨t, rfl⟩ := rx
  obtain ⟨t', rfl⟩ := ry
  exact rule i j t t' s _ _ ⟨.int (g i j), H, I.tok _, ⟨_, rfl⟩, q⟩
def CDiv (i j : Int) : Prop := 0 < j ∧ j < 1073741824
def CMul (i j : Int) : Prop := (-(2 ^ 64) < i ∧ i < 2 ^ 64) ∨ (-(2 ^ 64) < j ∧ j < 2 ^ 64)
theorem CMul.ok {i j : Int} (h : CMul i j) : IntMulOk i j := by
  rcases h with ⟨h1, h2⟩ | ⟨h1, h2⟩
  · exact .of_left (intBits_le_64 h1 h2)
  · exact .of_right (intBits_le_64 h1 h2)
theorem op_add : OpR X (binaryOp .Add) (rI0 fun i j => .int (i + j)) := opI0 fun _ _ _ _ _ _ _ q => add_int q
theorem op_sub : OpR X (binaryOp .Sub) (rI0 fun i j => .int (i - j)) := opI0 fun _ _ _ _ _ _ _ q => sub_int q
theorem op_mul : OpR X (binaryOp .Mult) (rI CMul fun i j => .int (i * j)) := opI fun _ _ _ _ _ _ _ hc q => mul_int q hc.ok
theorem op_fdiv : OpR X (binaryOp .FloorDiv) (rI CDiv fun i j => .int (i / j)) := opI fun i j _ _ _ _ _ hc q => by
  have h1 : (0 : Int) < j := hc.1
  have h2 : j < 1073741824 := hc.2
  exact floordiv_int (by omega) (by rw [Int.fdiv_eq_ediv_of_nonneg i (by omega)]; exact q) (.inl (PyProof.noPylong_small (by omega)))
theorem op_mod : OpR X (binaryOp .Mod) (rI (fun _ j => 0 < j) fun i j => .int (i % j)) := opI fun i j _ _ _ _ _ hc q => by
  have h1 : (0 : Int) < j := hc
  exact mod_int' (by omega) (by rw [Int.fmod_eq_emod_of_nonneg i (by omega)]; exact q)
theorem unI {f : Value → Sem Value} {g : Int → Int}
    (rule : ∀ (i : Int) (t : Tok) (s : Shared) (Q : Value → Shared → Prop) (E : Value → Shared → Prop), Q (.int (g i) s.toks) { s with toks := s.toks + 1 } → wpAny (model X.prog X.w) X.A (f (.int i t)) Q E s) :
    UnR X f (rU fun i => .int (g i)) := by
  intro pins s σ H x v Q I rx h
  obtain ⟨i, rfl, q⟩ := h
  obtain ⟨t, rfl⟩ := rx
  exact rule i t s _ _ ⟨.int (g i), H, I.tok _, ⟨_, rfl⟩, q⟩
theorem un_neg : UnR X (unaryOp .USub) (rU fun i => .int (-i)) := unI fun _ _ _ _ _ q => neg_int q
end
def scal : V → V → Bool
  | .non, .non => true | .non, .int _ => true | .int _, .non => true | .non, .bl _ => true | .bl _, .non => true | .non, .str _ => true | .str _, .non => true
  | .int _, .int _ => true | .bl _, .bl _ => true | .str _, .str _ => true | .byt _, .byt _ => true
  | .int _, .str _ => true | .str _, .int _ => true | .bl _, .str _ => true | .str _, .bl _ => true
  | _, _ => false
def rEq : R2 := fun x y H Q => scal x y = true ∧ Q (.bl (decide (x = y))) H
def rNe : R2 := fun x y H Q => scal x y = true ∧ Q (.bl (!decide (x = y))) H
theorem dec_int {i j : Int} : decide (V.int i = V.int j) = (i == j) := by
  rw [Bool.eq_iff_iff]
  simp
theorem dec_bl {i j : Bool} : decide (V.bl i = V.bl j) = (i == j) := by
  rw [Bool.eq_iff_iff]
  simp
theorem dec_str {i j : Str} : decide (V.str i = V.str j) = (i == j) := by
  rw [Bool.eq_iff_iff]
  simp
theorem dec_byt {i j : Array UInt8} : decide (V.byt i = V.byt j) = (i.toList == j.toList) := by
  rw [Bool.eq_iff_iff]
  cases i
  cases j
  simp
section
variable {X : Cx} {a b c : Expr} {ta tb tc : TE} {pos : Pos}
theorem fin_bl {pins : List (Addr × Obj)} {σ : St} {H : Hp} {s : Shared} {Q : VK} {k k' : Bool} (I : Inv X pins σ H s) (q : Q (.bl k) H) (e : k = k') : EP X pins σ Q (.bool k') s := by
  subst e
  exact ⟨.bl k, H, I, rfl, q⟩
theorem op_eq : OpR X (compareOp .Eq) rEq := by
  intro pins s σ H x y v u Q I rx ry h
  obtain ⟨hs, q⟩ := h
  cases x with
  | non =>
    cases rx
    cases y with
    | non => cases ry; exact PySem.EqNone.eq_none_none (fin_bl I q (by simp))
    | bl j => cases ry; exact PySem.EqNone.eq_none_bool (fin_bl I q (by simp))
    | int j => obtain ⟨t', rfl⟩ := ry; exact PySem.EqNone.eq_none_int (fin_bl I q (by simp))
    | str j => obtain ⟨t', rfl⟩ := ry; exact PySem.EqNone.eq_none_str (fin_bl I q (by simp))
    | _ => exact absurd (show false = true from hs) Bool.false_ne_true
  | bl i =>
    cases rx
    cases y with
    | non => cases ry; exact PySem.EqNone.eq_bool_none (fin_bl I q (by simp))
    | bl j => cases ry; exact eq_bool (fin_bl I q dec_bl)
    | str j => obtain ⟨t', rfl⟩ := ry; exact PySem.EqMixed.eq_bool_str (fin_bl I q (by simp))
    | _ => exact absurd (show false = true from hs) Bool.false_ne_true
  | int i =>
    obtain ⟨t, rfl⟩ := rx
    cases y with
    | non => cases ry; exact PySem.EqNone.eq_int_none (fin_bl I q (by simp))
    | int j => obtain ⟨t', rfl⟩ := ry; exact eq_int (fin_bl I q dec_int)
    | str j => obtain ⟨t', rfl⟩ := ry; exact PySem.EqMixed.eq_int_str (fin_bl I q (by simp))
    | _ => exact absurd (show false = true from hs) Bool.false_ne_true
  | str i =>
    obtain ⟨t, rfl⟩ := rx
    cases y with
    | non => cases ry; exact PySem.EqNone.eq_str_none (fin_bl I q (by simp))
    | bl j => cases ry; exact PySem.EqMixed.eq_str_bool (fin_bl I q (by simp))
    | int j => obtain ⟨t', rfl⟩ := ry; exact PySem.EqMixed.eq_str_int (fin_bl I q (by simp))
    | str j => obtain ⟨t', rfl⟩ := ry; exact eq_str (fin_bl I q dec_str)
    | _ => exact absurd (show false = true from hs) Bool.false_ne_true
  | byt i =>
    obtain ⟨t, rfl⟩ := rx
    cases y with
    | byt j => obtain ⟨t', rfl⟩ := ry; exact PySem.W.eq_bytes (fin_bl I q dec_byt)
    | _ => exact absurd (show false = true from hs) Bool.false_ne_true
  | _ => cases y <;> exact absurd (show false = true from hs) Bool.false_ne_true
theorem op_ne : OpR X (compareOp .NotEq) rNe := by
  intro pins s σ H x y v u Q I rx ry h
  obtain ⟨hs, q⟩ := h
  cases x with
  | non =>
    cases rx
    cases y with
    | non => cases ry; exact PySem.EqNone.ne_none_none (fin_bl I q (by simp))
    | bl j => cases ry; exact PySem.EqNone.ne_none_bool (fin_bl I q (by simp))
    | int j => obtain ⟨t', rfl⟩ := ry; exact PySem.EqNone.ne_none_int (fin_bl I q (by simp))
    | str j => obtain ⟨t', rfl⟩ := ry; exact PySem.EqNone.ne_none_str (fin_bl I q (by simp))
    | _ => exact absurd (show false = true from hs) Bool.false_ne_true
  | bl i =>
    cases rx
    cases y with
    | non => cases ry; exact PySem.EqNone.ne_bool_none (fin_bl I q (by simp))
    | bl j => cases ry; exact ne_bool (fin_bl I q (congrArg not dec_bl))
    | str j => obtain ⟨t', rfl⟩ := ry; exact PySem.EqMixed.ne_bool_str (fin_bl I q (by simp))
    | _ => exact absurd (show false = true from hs) Bool.false_ne_true
  | int i =>
    obtain ⟨t, rfl⟩ := rx
    cases y with
    | non => cases ry; exact PySem.EqNone.ne_int_none (fin_bl I q (by simp))
    | int j => obtain ⟨t', rfl⟩ := ry; exact ne_int (fin_bl I q (congrArg not dec_int))
    | str j => obtain ⟨t', rfl⟩ := ry; exact PySem.EqMixed.ne_int_str (fin_bl I q (by simp))
    | _ => exact absurd (show false = true from hs) Bool.false_ne_true
  | str i =>
    obtain ⟨t, rfl⟩ := rx
    cases y with
    | non => cases ry; exact PySem.EqNone.ne_str_none (fin_bl I q (by simp))
    | bl j => cases ry; exact PySem.EqMixed.ne_str_bool (fin_bl I q (by simp))
    | int j => obtain ⟨t', rfl⟩ := ry; exact PySem.EqMixed.ne_str_int (fin_bl I q (by simp))
    | str j => obtain ⟨t', rfl⟩ := ry; exact ne_str (fin_bl I q (congrArg not dec_str))
    | _ => exact absurd (show false = true from hs) Bool.false_ne_true
  | byt i =>
    obtain ⟨t, rfl⟩ := rx
    cases y with
    | byt j => obtain ⟨t', rfl⟩ := ry; exact PySem.W.ne_bytes (fin_bl I q (congrArg not dec_byt))
    | _ => exact absurd (show false = true from hs) Bool.false_ne_true
  | _ => cases y <;> exact absurd (show false = true from hs) Bool.false_ne_true
theorem OpR.or {f : Value → Value → Sem Value} {r r' : R2} (h : OpR X f r) (h' : OpR X f r') : OpR X f (fun x y H Q => r x y H Q ∨ r' x y H Q) := by
  intro pins s σ H x y v u Q I rx ry q
  rcases q with q | q
  · exact h pins s σ H x y v u Q I rx ry q
  · exact h' pins s σ H x y v u Q I rx ry q
theorem nomark (b : Expr) {op : CmpOp} (h : op ≠ .In := by decide) (h2 : op ≠ .NotIn := by decide) : behindInMarks op b = false := by
  have e1 : (op == CmpOp.In) = false := by cases op <;> first | rfl | exact absurd rfl h
  have e2 : (op == CmpOp.NotIn) = false := by cases op <;> first | rfl | exact absurd rfl h2
  cases b <;> simp [behindInMarks, e1, e2]
theorem pe_cmpR {op : CmpOp} {r : R2} (ho : OpR X (compareOp op) r) (ha : PE X a ta) (hb : PE X b tb) (hm : behindInMarks op b = false) : PE X (.Compare a [op] [b] pos) (tOp r ta tb) := by
  intro pins s σ H Q I h
  exact wpAny_Compare1 (binT ha hb I h fun v u s2 x y H2 I2 rx ry q => ho pins s2 σ H2 x y v u Q I2 rx ry q) hm
def tTest (t : TE) : TT := fun σ H Q => t σ H fun x H' => ∃ k, x = .bl k ∧ Q k H'
theorem pt_cmpR {op : CmpOp} {r : R2} (ho : OpR X (compareOp op) r) (ha : PE X a ta) (hb : PE X b tb) (hm : behindInMarks op b = false) : PT X (.Compare a [op] [b] pos) (tTest (tOp r ta tb)) := by
  intro pins s σ H Q I h
  refine wpAny_isTrue_Compare1 (thn (ha pins s σ H _ I h) fun v s1 ⟨x, H1, I1, r1, q1⟩ => thn (hb pins s1 σ H1 _ I1 q1) fun u s2 ⟨y, H2, I2, r2, q2⟩ =>
    thn (ho pins s2 σ H2 x y v u _ I2 r1 r2 q2) fun c s3 ⟨z, H3, I3, r3, k, e, q3⟩ => ?_) hm
  subst e
  cases r3
  exact wpAny_truthy_bool ⟨H3, I3, q3⟩
theorem line63 : (sizeLine : Nat) < 2 ^ 63 := by rw [sizeLine_eq]; decide
theorem vals1 {x : V} {us : List Value} (r : Vals [x] us) : ∃ u, us = [u] ∧ RelV x u := by
  cases r with
  | cons r1 r2 => cases r2; exact ⟨_, rfl, r1⟩
end
end L2
namespace L2
open PySem PySem.Spec PyProof.Rows
structure ObjM (h : Heap) (x dx C : Addr) (mA : Str → Option Value) : Prop where
  obj : h.get? x = some (PySem.W.instObj C dx)
  ns : h.Ns1 dx mA
  ne : dx ≠ x
theorem lookIn_ns {h : Heap} {dx : Addr} {mA : Str → Option Value} (n : h.Ns1 dx mA) : ∃ od, h.get? dx = some od ∧ ∀ name, PySem.W.lookIn name od = some (mA name) := by
  obtain ⟨o, es, ep, ho, hd, hk, _, hm⟩ := n
  refine ⟨o, ho, fun name => ?_⟩
  have e := hm name
  unfold nsFind findBy at e
  rw [← Array.find?_toList] at e
  unfold PySem.W.lookIn
  rw [hd]
  dsimp only
  split
  · rename_i y q
    rw [q] at e
    exact congrArg some e
  · rename_i q
    rw [q] at e
    have a : es.toList.any (·.refKey) = false := by
      rw [List.any_eq_false]
      intro y hy
      obtain ⟨z, t, hkey⟩ := hk y (Array.mem_toList_iff.mp hy)
      simp [DictEntry.refKey, hkey]
    have a' : ¬ es.toList.any (·.refKey) = true := by rw [a]; exact Bool.false_ne_true
    rw [if_neg a']
    exact congrArg some e
theorem ObjM.look {h : Heap} {x dx C : Addr} {mA : Str → Option Value} (I : ObjM h x dx C mA) : ∃ od, PySem.W.InstAt h x (PySem.W.instObj C dx) C (some od) ∧ ∀ name, PySem.W.lookIn name od = some (mA name) :=
  let ⟨od, ho, hl⟩ := lookIn_ns I.ns
  ⟨od, ⟨I.obj, rfl, rfl, ho⟩, hl⟩
section
variable {prog : Program} {w : World} {A : Around} {E : Value → Shared → Prop} {s : Shared} {K : PySem.W.Frag} {x dx C f : Addr} {mA : Str → Option Value} {name : Str} {v : Value}
end
section
variable {P : Program} {w : World} {H H' : Hp} {h h' : Heap} {a C dx : Addr} {fs fs' : List (Str × V)}
end
structure Cls (K : PySem.W.Frag) (C : Addr) : Prop where
  pg : PySem.W.plainGet K C Str.empty = true
  hd : PySem.W.hasDictIn K C = true
  po : PySem.W.plainOver K C = true
  sa : PySem.W.findIn K (.ref C) "__setattr__" = some (some (.builtin "object.__setattr__"))
theorem Cls.get {K : PySem.W.Frag} {C : Addr} (c : Cls K C) (f : Str) : PySem.W.plainGet K C f = true := c.pg
section
variable {X : Cx} {pins : List (Addr × Obj)} {σ : St} {H : Hp} {s : Shared} {a C dx : Addr} {fs : List (Str × V)} {f : Str} {v : V} {A : Around} {E : Value → Shared → Prop}
end
section
variable {X : Cx} {o e value : Expr} {f : Str} {pos pos' tpos : Pos} {ta tv : TE}
end
section
variable {X : Cx} {pins : List (Addr × Obj)} {σ : St} {H : Hp} {s : Shared} {A : Around} {E : Value → Shared → Prop} {Q : Value → Shared → Prop} {c : Value} {b : Bool}
end
end L2
namespace L2
open PySem PySem.Spec PyProof.Rows
structure Room (k : Nat) (A : Around) : Prop where
  hd : A.handled = none
  dp : A.depth + 3 * k + 5 < recursionLimit
  un : A.units + 16 * k + 200 < cLine
theorem Room.mono {j k : Nat} {A : Around} (r : Room k A) (h : j ≤ k) : Room j A := ⟨r.hd, by have := r.dp; omega, by have := r.un; omega⟩
theorem Room.deeper {k : Nat} {A : Around} (r : Room (k + 1) A) (env : Env) : Room k (A.deeper env) :=
  ⟨r.hd, by have := r.dp; show A.depth + 1 + 3 * k + 5 < _; omega, by have := r.un; show A.units + 3 + 16 * k + 200 < _; omega⟩
theorem Room.in1 {k : Nat} {A : Around} (r : Room (k + 1) A) : Room k A.in1 :=
  ⟨r.hd, by have := r.dp; show A.depth + 3 * k + 5 < _; omega, by have := r.un; show A.units + 1 + 16 * k + 200 < _; omega⟩
theorem Room.depth {k : Nat} {A : Around} (r : Room k A) : A.depth < recursionLimit := by have := r.dp; omega
theorem Room.units {k : Nat} {A : Around} (r : Room k A) : A.units + 64 < cLine := by have := r.un; omega
def tNil : TA := fun _ H Q => Q [] H
def tCons (ta : TE) (tr : TA) : TA := fun σ H Q => ta σ H fun x H1 => tr σ H1 fun xs H2 => Q (x :: xs) H2
section
variable {X : Cx} {e : Expr} {es : List Expr} {te : TE} {t : TA} {pos : Pos}
theorem pa_nil : PA X [] tNil := fun _ _ _ _ H Q I h => Calls.spliced_nil ⟨[], H, I, .nil, h⟩
theorem pa_cons (ha : PE X e te) (hr : PA X es t) (hs : starEach (e :: es) X.env = (false, eval e X.env) :: starEach es X.env := by rfl) : PA X (e :: es) (tCons te t) := by
  intro pos pins s σ H Q I h
  rw [hs]
  show wpAny _ _ (spliced ((false, eval e X.env) :: backTo pos (starEach es X.env))) _ _ s
  refine Calls.spliced_cons (thn (ha pins s σ H _ I h) fun u s1 ⟨x, H1, I1, r1, q1⟩ => ?_)
  exact thn (hr pos pins s1 σ H1 _ I1 q1) fun us s2 ⟨xs, H2, I2, r2, q2⟩ => ⟨x :: xs, H2, I2, .cons r1 r2, q2⟩
def tLst (t : TA) : TE := fun σ H Q => t σ H fun xs H1 => xs.length ≤ sizeLine ∧ ∀ p, H1 p = none → Q (.ref p) (upd H1 p (.lst xs))
theorem pe_lst (h : PA X es t) : PE X (.List es pos) (tLst t) := by
  intro pins s σ H Q I hq
  refine wpAny_List_spliced (thn (h pos pins s σ H _ I hq) fun us s1 ⟨xs, H1, I1, r, z, q⟩ => ⟨by rw [← r.length]; exact z, ?_⟩)
  have hf : H1 s1.heap.objs.size = none := I1.hok.fresh (Nat.le_refl _)
  refine ⟨.ref s1.heap.objs.size, upd H1 s1.heap.objs.size (.lst xs), I1.laid (t' := s1.toks) (fun b u e => Heap.get?_push_of_some _ e) (Nat.le_refl _) ?_, rfl, q _ hf⟩
  exact ⟨z, us, 0, r, Heap.get?_push_size _ rfl⟩
end
abbrev Sp := List V → Hp → VK → XK → Prop
abbrev CXT := List Env → Hp → Shared → XK → Value → Shared → Prop
structure Env0 (P : Program) (w : World) (K : PySem.W.Frag) (mg : Str → Option Value) (base : Heap) (A : Around) (outer : List Env) (s : Shared) (H : Hp) : Prop where
  frames : A.frames = some outer
  mod : Mod K mg base
  bs : ∀ b o, base.get? b = some o → s.heap.get? b = some o ∧ H b = none
  bsz : base.objs.size ≤ s.heap.objs.size
  funs : s.heap.FunFrames base outer
  frf : ∀ b ∈ frs outer, H b = none
  hok : HOk P w H s.heap
  bare : AllBare s.gens
def CE (outer : List Env) (P : Program) (w : World) (H : Hp) (s : Shared) (Q : VK) (u : Value) (s' : Shared) : Prop :=
  ∃ v H', s'.os = s.os ∧ AllBare s'.gens ∧ Un (frs outer) [] H H' s.heap s'.heap ∧ HOk P w H' s'.heap ∧ RelV v u ∧ Q v H'
def CR (CX : CXT) (outer : List Env) (P : Program) (w : World) (H : Hp) (s : Shared) (Q : VK) (E : XK) (r : Result) (s' : Shared) : Prop :=
  match r with
  | .ok (.ret u) => CE outer P w H s Q u s'
  | .ok _ => False
  | .error e => CX outer H s E e s'
structure FnOk (P : Program) (w : World) (K : PySem.W.Frag) (mg : Str → Option Value) (base : Heap) (CX : CXT) (k : Nat) (f : Addr) (fd : FuncData) (ps : List Str) (sp : Sp) : Prop where
  len : ∀ vs H Q E, sp vs H Q E → vs.length = ps.length
  run : ∀ (A : Around) (outer : List Env) (s : Shared) (H : Hp) (args : Args) (us : List Value) (vs : List V) (Q : VK) (E : XK), Room k A → Env0 P w K mg base A outer s H → BindsTo s fd args (ps.zip us) → Vals vs us → sp vs H Q E →
    codeAny (model P w) A (.call (.ref f) args) (CR CX outer P w H s Q E) s
theorem FnOk.mono {P : Program} {w : World} {K : PySem.W.Frag} {mg : Str → Option Value} {base : Heap} {CX : CXT} {j k : Nat} {f : Addr} {fd : FuncData} {ps : List Str} {sp : Sp} (F : FnOk P w K mg base CX j f fd ps sp) (h : j ≤ k) :
    FnOk P w K mg base CX k f fd ps sp := ⟨F.len, fun A outer s H args us vs Q E hr => F.run A outer s H args us vs Q E (hr.mono h)⟩
theorem FnOk.imp {P : Program} {w : World} {K : PySem.W.Frag} {mg : Str → Option Value} {base : Heap} {CX : CXT} {k : Nat} {f : Addr} {fd : FuncData} {ps : List Str} {sp sp' : Sp} (F : FnOk P w K mg base CX k f fd ps sp)
    (h : ∀ vs H Q E, sp' vs H Q E → sp vs H Q E) : FnOk P w K mg base CX k f fd ps sp' :=
  ⟨fun vs H Q E q => F.len vs H Q E (h _ _ _ _ q), fun A outer s H args us vs Q E hr he hb hv hs => F.run A outer s H args us vs Q E hr he hb hv (h _ _ _ _ hs)⟩
theorem Env0.in1 {P : Program} {w : World} {K : PySem.W.Frag} {mg : Str → Option Value} {base : Heap} {A : Around} {outer : List Env} {s : Shared} {H : Hp} (e : Env0 P w K mg base A outer s H) :
    Env0 P w K mg base A.in1 outer s H := ⟨e.frames, e.mod, e.bs, e.bsz, e.funs, e.frf, e.hok, e.bare⟩
section
variable {X : Cx} {pins : List (Addr × Obj)} {σ : St} {H : Hp} {s s' : Shared}
theorem Inv.env0 (I : Inv X pins σ H s) : Env0 X.prog X.w X.K X.mg X.base X.A X.stack s H :=
  ⟨I.ok.frames, I.ok.mod, I.bs, Nat.le_trans I.ok.bsz I.sz, I.stack, I.stkFree, I.hok, I.bare⟩
theorem Inv.after {Q : VK} {u : Value} (I : Inv X pins σ H s) (h : CE X.stack X.prog X.w H s Q u s') : EP X pins σ Q u s' := by
  obtain ⟨v, H', os, bare, un, hok, r, q⟩ := h
  obtain ⟨hh, g, d, t, os'⟩ := s'
  obtain rfl : os' = s.os := os
  exact ⟨v, H', I.call (h' := hh) (g' := g) (d' := d) (t' := t) (ch := []) un hok bare (fun b z => absurd z (by simp)), r, q⟩
end
def tCall (sp : Sp) (dvs : List V) (E : XK) (t : TA) : TE := fun σ H Q => t σ H fun vs H1 => sp (vs ++ dvs) H1 Q E
def Binds (K : PySem.W.Frag) (fd : FuncData) (ps : List Str) (ds : List Value) : Prop :=
  ∀ (s : Shared) (us : List Value), K.In s.heap → (us ++ ds).length = ps.length → BindsTo s fd ⟨us, []⟩ (ps.zip (us ++ ds))
theorem Binds.all {K : PySem.W.Frag} {fd : FuncData} {ps : List Str} (h : ∀ us : List Value, us.length = ps.length → bindArgs fd ⟨us, []⟩ = pure (ps.zip us)) : Binds K fd ps [] := fun s us _ hl => by
  rw [List.append_nil] at hl ⊢
  exact .of_eq (h us hl)
def Passes (CX : CXT) (X : Cx) (E : XK) : Prop := ∀ (pins : List (Addr × Obj)) (σ : St) (H : Hp) (s : Shared) (e : Value) (s' : Shared), Inv X pins σ H s → CX X.stack H s E e s' → X.xe e s'
section
variable {X : Cx} {CX : CXT} {k : Nat} {f C : Addr} {fd : FuncData} {ps : List Str} {sp : Sp} {dvs : List V} {ds : List Value} {E : XK} {x m : Str} {p pos apos : Pos} {e o : Expr} {es : List Expr} {ta : TE} {t : TA}
theorem run_fn {pins : List (Addr × Obj)} {σ : St} {H : Hp} {s : Shared} {Q : VK} {us : List Value} {vs : List V} (F : FnOk X.prog X.w X.K X.mg X.base CX k f fd ps sp) (hr : Room k X.A) (hb : Binds X.K fd ps ds) (hd : Vals dvs ds) (hx : Passes CX X E)
    (I : Inv X pins σ H s) (r : Vals vs us) (h : sp (vs ++ dvs) H Q E) : wpAny (model X.prog X.w) X.A (call (.ref f) us) (EP X pins σ Q) X.xe s := by
  have r2 : Vals (vs ++ dvs) (us ++ ds) := r.append hd
  have hl : (us ++ ds).length = ps.length := by rw [← r2.length]; exact F.len _ _ _ _ h
  refine wpAny_call (codeAny_mono (F.run X.A X.stack s H ⟨us, []⟩ (us ++ ds) (vs ++ dvs) Q E hr I.env0 (hb s us I.kIn hl) r2 h) fun r s' hq => ?_)
  cases r with
  | error e => exact hx pins σ H s e s' I hq
  | ok fl =>
    cases fl with
    | ret u => exact I.after hq
    | next => exact False.elim hq
    | brk => exact False.elim hq
    | cont => exact False.elim hq
theorem pe_call (F : FnOk X.prog X.w X.K X.mg X.base CX k f fd ps sp) (hr : Room k X.A) (hg : Gl X x) (hm : X.mg x = some (.ref f)) (hk : PySem.W.keepIn X.K (.ref f) = true) (hb : Binds X.K fd ps ds) (hd : Vals dvs ds) (hx : Passes CX X E)
    (ha : PA X (e :: es) t) (hdb : (x == ("__debug__" : Str)) = false := by decide) (he : starEach (e :: es) X.env = (false, eval e X.env) :: starEach es X.env := by rfl) (hpl : (backTo pos (starEach es X.env)).any (·.1) = false := by rfl) :
    PE X (.Call (.Name x p) (e :: es) [] pos) (tCall sp dvs E t) := by
  intro pins s σ H Q I h
  refine wpAny_Call_Name_kw (ld_glob I hg hm ?_ hdb)
  refine PySem.W.callWith_K (h₀ := X.base) I.ok.mod.kin hk (thn (ha pos pins s σ H _ I h) fun us s1 ⟨vs, H1, I1, r, q⟩ => ⟨I1.kIn, ?_⟩) he hpl
  exact run_fn F hr hb hd hx I1 r q
end
section
variable {X : Cx} {CX : CXT} {k : Nat} {f C : Addr} {fd : FuncData} {ps ks : List Str} {sp : Sp} {E : XK} {x m : Str} {p pos apos kpos : Pos} {e o : Expr} {es : List Expr} {kws : List Keyword} {te ta : TE} {t tk : TA} {nm : Option Str}
variable {g : List Value → List Value → List Value} {gV : List V → List V → List V}
end
structure FnScope (N P : List Str) (sc : Scope) : Prop where
  kind : sc.kind = .function
  co : sc.isCoroutine = false
  gen : sc.isGenerator = false
  nd : N.Nodup
  pre : N.take P.length = P
  par : ∀ x ∈ P, sc.names.lookup x = some .local ∨ sc.names.lookup x = some .cell
  nofree : ∀ y ∈ sc.names, y.2 ≠ .free
theorem bindL_out {kindOf : Str → Option NameKind} {x : Str} : ∀ {binds : List (Str × Value)} {m : Str → Option Value}, (∀ v, (x, v) ∉ binds) → bindL kindOf binds m x = m x
  | [], _, _ => rfl
  | (n, v) :: r, m, h => by
    unfold bindL
    rw [bindL_out fun w hw => h w (List.mem_cons_of_mem _ hw)]
    split
    · have : x ≠ n := by rintro rfl; exact h v List.mem_cons_self
      simp [this]
    · rfl
theorem bindC_out {kindOf : Str → Option NameKind} {x : Str} : ∀ {binds : List (Str × Value)} {m : Str → Option Value}, (∀ v, (x, v) ∉ binds) → bindC kindOf binds m x = m x
  | [], _, _ => rfl
  | (n, v) :: r, m, h => by
    unfold bindC
    rw [bindC_out fun w hw => h w (List.mem_cons_of_mem _ hw)]
    split
    · rfl
    · have : x ≠ n := by rintro rfl; exact h v List.mem_cons_self
      simp [this]
theorem bindL_get {kindOf : Str → Option NameKind} {x : Str} {v : Value} : ∀ {P : List Str} {vs : List Value} {i : Nat} {m : Str → Option Value}, P.Nodup → P[i]? = some x → vs[i]? = some v → kindOf x = some .local →
    bindL kindOf (P.zip vs) m x = some v
  | [], _, _, _, _, h, _, _ => by simp at h
  | _ :: _, [], _, _, _, _, h, _ => by simp at h
  | p :: P, w :: vs, 0, m, nd, h1, h2, hk => by
    simp at h1 h2; subst h1; subst h2
    show bindL kindOf ((p, w) :: P.zip vs) m p = _
    unfold bindL
    rw [bindL_out fun v hv => (List.nodup_cons.mp nd).1 (List.of_mem_zip hv).1, if_pos hk]
    simp
  | p :: P, w :: vs, i + 1, m, nd, h1, h2, hk => by
    show bindL kindOf ((p, w) :: P.zip vs) m x = _
    unfold bindL
    exact bindL_get (i := i) (List.nodup_cons.mp nd).2 (by simpa using h1) (by simpa using h2) hk
theorem bindC_get {kindOf : Str → Option NameKind} {x : Str} {v : Value} : ∀ {P : List Str} {vs : List Value} {i : Nat} {m : Str → Option Value}, P.Nodup → P[i]? = some x → vs[i]? = some v → kindOf x ≠ some .local →
    bindC kindOf (P.zip vs) m x = some v
  | [], _, _, _, _, h, _, _ => by simp at h
  | _ :: _, [], _, _, _, _, h, _ => by simp at h
  | p :: P, w :: vs, 0, m, nd, h1, h2, hk => by
    simp at h1 h2; subst h1; subst h2
    show bindC kindOf ((p, w) :: P.zip vs) m p = _
    unfold bindC
    rw [bindC_out fun v hv => (List.nodup_cons.mp nd).1 (List.of_mem_zip hv).1, if_neg hk]
    simp
  | p :: P, w :: vs, i + 1, m, nd, h1, h2, hk => by
    show bindC kindOf ((p, w) :: P.zip vs) m x = _
    unfold bindC
    exact bindC_get (i := i) (List.nodup_cons.mp nd).2 (by simpa using h1) (by simpa using h2) hk
def start (N : List Str) (vs : List V) : St := vs.map some ++ List.replicate (N.length - vs.length) none
def cxOf (CX : CXT) (P : Program) (w : World) (K : PySem.W.Frag) (mg : Str → Option Value) (base : Heap) (N : List Str) (qual : Str) (scope : Scope) (f : Addr) (cd : Value) (A : Around) (outer : List Env) (s : Shared) (H : Hp) (E : XK) : Cx where
  prog := P
  w := w
  K := K
  mg := mg
  base := base
  A := A.deeper (envOfC qual scope s.heap.objs.size f cd)
  N := N
  s_0 := s
  H_0 := H
  env := envOfC qual scope s.heap.objs.size f cd
  outer := outer
  stack := envOfC qual scope s.heap.objs.size f cd :: outer
  ex := []
  calm := true
  fn := fun _ => true
  pn := []
  xe := fun e s' => wpAny (model P w) (A.deeper (envOfC qual scope s.heap.objs.size f cd)) (leaving (envOfC qual scope s.heap.objs.size f cd) e) (fun _ s'' => CX outer H s E e s'') (fun e' s'' => CX outer H s E e' s'') s'
theorem cell_has {sc : Scope} {n : Nat} {x : Str} (h : sc.names.lookup x = some .cell) : ∃ c, (cellsFrom n sc.names []).lookup x = some c := by
  have q := PySem.W.cellsFrom_some sc.names n [] (.inl h)
  exact Option.isSome_iff_exists.mp q
theorem inv_start {CX : CXT} {P : Program} {w : World} {K : PySem.W.Frag} {mg : Str → Option Value} {base : Heap} {N ps : List Str} {qual : Str} {scope : Scope} {f : Addr} {cd : Value} {A : Around} {outer : List Env} {s s1 : Shared} {H : Hp} {E : XK} {us : List Value} {vs : List V}
    (S : FnScope N ps scope) (hd : A.handled = none) (e0 : Env0 P w K mg base A outer s H) (hl : vs.length = ps.length) (r : Vals vs us)
    (x : InCallC s s.heap.objs.size (bindL (envOfC qual scope s.heap.objs.size f cd).kindOf (ps.zip us) fun _ => none) (cellsFrom (s.heap.objs.size + 1) scope.names []) (bindC (envOfC qual scope s.heap.objs.size f cd).kindOf (ps.zip us) fun _ => none) s1) :
    Inv (cxOf CX P w K mg base N qual scope f cd A outer s H E) [] (start N vs) H s1 := by
  have hpl : ps.length ≤ N.length := by have := congrArg List.length S.pre; rw [List.length_take] at this; omega
  obtain ⟨h1, tk, rfl, hk⟩ := x.done
  have noA : ∀ b : Addr, b ∉ (cxOf CX P w K mg base N qual scope f cd A outer s H E).ex := fun b z => absurd (show b ∈ ([] : List Addr) from z) (by simp)
  refine ⟨⟨e0.mod, S.kind, rfl, rfl, Nat.le_refl _, fun y z c h1 h2 => ?_, fun y hy => ?_, fun y c _ h => ?_, fun _ => hd, Around.frames_deeper e0.frames, .inr ⟨rfl, rfl⟩, fun b z => absurd z (noA b), e0.bs, e0.bsz, fun b _ _ => noA b, fun b z => absurd z (noA b), e0.funs, e0.frf⟩,
    rfl, e0.bare, Un.kept hk, ⟨_, x.toInCall.ns, fun i y v h1 h2 h3 => ?_⟩, fun y c h => ⟨_, x.cell y c h⟩, e0.hok.fresh (Nat.le_refl _), fun y c h => ?_, fun p hp => absurd (show p ∈ ([] : List (Addr × Obj)) from hp) (by simp), e0.hok.kept hk, ?_⟩
  · exact name_of_addr x.apart (PySem.mem_of_lookup h1) (PySem.mem_of_lookup h2)
  · have hy : scope.names.lookup y = some .cell ∨ scope.names.lookup y = some .free := hy
    rcases hy with hy | hy
    · exact cell_has hy
    · exact absurd rfl (S.nofree _ (PySem.mem_of_lookup hy))
  · exact Nat.le_of_lt (x.above y c (PySem.mem_of_lookup h))
  · have hi : i < vs.length := by
      unfold start at h2
      by_cases hi : i < vs.length
      · exact hi
      · rw [List.getElem?_append_right (by simpa using hi)] at h2
        rw [List.getElem?_replicate] at h2
        split at h2 <;> cases h2
    have ha : vs[i]? = some v := by
      unfold start at h2
      rw [List.getElem?_append_left (by simpa using hi), List.getElem?_map] at h2
      cases e : vs[i]? with
      | none => rw [e] at h2; cases h2
      | some a => rw [e] at h2; cases h2; rfl
    obtain ⟨u, hu, rv⟩ := r.get ha
    have hp : ps[i]? = some y := by
      rw [← S.pre, List.getElem?_take_of_lt (by omega)]; exact h1
    have ndP : ps.Nodup := by rw [← S.pre]; exact S.nd.sublist (List.take_sublist _ _)
    refine ⟨u, rv, ?_⟩
    rcases S.par y (List.mem_of_getElem? hp) with k | k
    · exact .inl ⟨k, bindL_get ndP hp hu k⟩
    · obtain ⟨c, e⟩ := cell_has (n := s.heap.objs.size + 1) k
      refine .inr ⟨.inl k, c, e, ?_⟩
      have q := x.cell y c e
      rw [bindC_get ndP hp hu (by show scope.names.lookup y ≠ _; rw [k]; decide)] at q
      exact q
  · exact e0.hok.fresh (Nat.le_of_lt (x.above y c (PySem.mem_of_lookup h)))
  · unfold start
    show _ = N.length
    rw [List.length_append, List.length_map, List.length_replicate]
    omega
theorem fn_of {CX : CXT} {P : Program} {w : World} {K : PySem.W.Frag} {mg : Str → Option Value} {base : Heap} {k : Nat} {f : Addr} {name qual : Str} {params : Arguments} {body : List Stmt} {scope : Scope} {dV kV doc pm cdv ct oc : Value} {an od : Option Addr}
    {osl : Array (Option Value)} {N ps : List Str} {sp : Sp} (lk : K.lookup f = some ⟨oc, od, .func (PySem.W.fnOf name qual params body scope dV kV doc pm an cdv ct), osl⟩) (hcd : PySem.W.codeIn K cdv qual = true) (S : FnScope N ps scope)
    (len : ∀ vs H Q E, sp vs H Q E → vs.length = ps.length)
    (hbody : ∀ (A : Around) (outer : List Env) (s : Shared) (H : Hp) (vs : List V) (Q : VK) (E : XK), Room k (A.deeper (envOfC qual scope s.heap.objs.size f cdv)) → sp vs H Q E →
      ∃ t, PSs (cxOf CX P w K mg base N qual scope f cdv A outer s H E) body t ∧ t { nx := fun _ H' => Q .non H', rt := Q } (start N vs) H) :
    FnOk P w K mg base CX (k + 1) f (PySem.W.fnOf name qual params body scope dV kV doc pm an cdv ct) ps sp := by
  refine ⟨len, fun A outer s H args us vs Q E hr e0 hb r hsp => ?_⟩
  have hl := len _ _ _ _ hsp
  have KX : K.In s.heap := e0.mod.kin.keeps fun b o e => (e0.bs b o e).1
  have lim : s.heap.NoLimit := e0.mod.nolimit.keeps fun b o e => (e0.bs b o e).1
  have hkind : ∀ y ∈ ps.zip us, scope.names.lookup y.1 = some .local ∨ (scope.names.lookup y.1 = some .cell ∧ ((cellsFrom (s.heap.objs.size + 1) scope.names []).lookup y.1).isSome = true) := fun ⟨n, v⟩ hy => by
    rcases S.par n (List.of_mem_zip hy).1 with q | q
    · exact .inl q
    · exact .inr ⟨q, PySem.W.cellsFrom_some _ _ _ (.inl q)⟩
  refine codeAny_call_function hr.depth (KX _ _ lk) rfl S.co S.gen rfl (PySem.W.codeRec_of KX hcd) (hb _ _ _ _ ?_)
  refine wpAny_newFunctionEnv_cells S.kind hkind fun env he s1 x => ?_
  subst he
  refine ⟨lim.keeps x.toInCall.keep, codeAny_func ?_⟩
  obtain ⟨t, ht, hq⟩ := hbody A outer s H vs Q E (hr.deeper _) hsp
  have I : Inv (cxOf CX P w K mg base N qual scope f cdv A outer s H E) [] (start N vs) H s1 := inv_start S hr.hd e0 hl r x
  refine wpAny_mono (ht [] s1 (start N vs) H _ I hq) (fun fl s' hs => ?_) fun e s' hs => hs
  have fin : ∀ {σ' : St} {H' : Hp} {v : V} {u : Value}, Inv (cxOf CX P w K mg base N qual scope f cdv A outer s H E) [] σ' H' s' → RelV v u → Q v H' → CE outer P w H s Q u s' :=
    fun {σ' H' v u} J rv q => ⟨v, H', J.os, J.bare, J.base, J.hok, rv, q⟩
  cases fl with
  | ret u =>
    obtain ⟨v, σ', H', J, rv, q⟩ := hs
    exact fin J rv q
  | next =>
    obtain ⟨σ', H', J, q⟩ := hs
    exact fin (v := V.non) (u := Value.none) J rfl q
  | brk =>
    obtain ⟨_, _, _, q⟩ := hs
    exact False.elim q
  | cont =>
    obtain ⟨_, _, _, q⟩ := hs
    exact False.elim q
end L2
namespace L2
open PySem PySem.Spec PyProof.Rows
section
variable {X : Cx} {x : Str} {p pos : Pos} {e : Expr} {es : List Expr} {t : TA} {id T : String} {r : List V → Hp → VK → Prop}
def tCB (r : List V → Hp → VK → Prop) (t : TA) : TE := fun σ H Q => t σ H fun vs H1 => r vs H1 Q
theorem pe_callB (hc : CallR X (.builtin id) r) (hg : Gl X x) (hm : X.mg x = none) (hv : bootBuiltins x = some (.builtin id)) (ha : PA X (e :: es) t) (hn : x ≠ "__name__" := by decide) (hdb : (x == ("__debug__" : Str)) = false := by decide)
    (he : starEach (e :: es) X.env = (false, eval e X.env) :: starEach es X.env := by rfl) (hpl : (backTo pos (starEach es X.env)).any (·.1) = false := by rfl) : PE X (.Call (.Name x p) (e :: es) [] pos) (tCB r t) := by
  intro pins s σ H Q I h
  refine wpAny_Call_Name_kw (ld_blt I hg hm hv ?_ hn hdb)
  exact PyProof.Rows.callWith_builtin1 (thn (ha pos pins s σ H _ I h) fun us s1 ⟨vs, H1, I1, r1, q1⟩ => hc pins s1 σ H1 vs us Q I1 r1 q1) he hpl
theorem pe_callTy (hc : CallR X (.type T) r) (hg : Gl X x) (hm : X.mg x = none) (hv : bootBuiltins x = some (.type T)) (ha : PA X (e :: es) t) (hn : x ≠ "__name__" := by decide) (hdb : (x == ("__debug__" : Str)) = false := by decide)
    (he : starEach (e :: es) X.env = (false, eval e X.env) :: starEach es X.env := by rfl) (hpl : (backTo pos (starEach es X.env)).any (·.1) = false := by rfl) : PE X (.Call (.Name x p) (e :: es) [] pos) (tCB r t) := by
  intro pins s σ H Q I h
  refine wpAny_Call_Name_kw (ld_blt I hg hm hv ?_ hn hdb)
  exact PyProof.Rows.callWith_type1 (thn (ha pos pins s σ H _ I h) fun us s1 ⟨vs, H1, I1, r1, q1⟩ => hc pins s1 σ H1 vs us Q I1 r1 q1) he hpl
end
end L2
namespace HT
open PySem PyProof.Rows
section
open PySem.SeqAt
open PySem.AutoSeq1 (wpAny_loadPart')
open PySem.MeetsSeq PySem.MeetsSeq2 PySem.MeetsSeq3
end
section
variable {prog : Program} {w : World} {A : Around} {E : Value → Shared → Prop} {s : Shared}
def sIx (n d : Nat) : Option Int → Nat
  | none => d
  | some v => if v < 0 then (v + (n : Int)).toNat else min v.toNat n
theorem sIx_nat (n d k : Nat) : sIx n d (some (k : Int)) = min k n := by
  show (if (k : Int) < 0 then ((k : Int) + (n : Int)).toNat else min (k : Int).toNat n) = min k n
  rw [if_neg (by omega), Int.toNat_natCast]
end
end HT
namespace L2
open PySem PySem.Spec PyProof.Rows
abbrev TO := St → Hp → (Option Int → Hp → Prop) → Prop
def PO (X : Cx) (e : Option Expr) (t : TO) : Prop :=
  ∀ (pins : List (Addr × Obj)) (s : Shared) (σ : St) (H : Hp) (Q : Option Int → Hp → Prop), Inv X pins σ H s → t σ H Q →
    wpAny (model X.prog X.w) X.A (evalPart e X.env) (fun u s' => ∃ o H', Inv X pins σ H' s' ∧ IsPart u o ∧ Q o H') X.xe s
def tPart (t : TE) : TO := fun σ H Q => t σ H fun x H1 => ∃ i, x = .int i ∧ Q (some i) H1
section
variable {X : Cx} {e : Expr} {te : TE} {lo hi : Option Expr} {tl th : TO} {pos p2 : Pos}
theorem po_some (h : PE X e te) : PO X (some e) (tPart te) := by
  intro pins s σ H Q I hw
  rw [evalPart_some]
  refine thn (h pins s σ H _ I hw) fun u s1 ⟨x, H1, I1, r1, q1⟩ => ?_
  obtain ⟨i, rfl, q⟩ := q1
  obtain ⟨t, rfl⟩ := r1
  exact ⟨some i, H1, I1, .int i t, q⟩
def SlR (X : Cx) (r : V → Option Int → Option Int → Hp → VK → Prop) : Prop :=
  ∀ (pins : List (Addr × Obj)) (s : Shared) (σ : St) (H : Hp) (x : V) (v vl vu : Value) (lo hi : Option Int) (sl : Addr) (Q : VK), Inv X pins σ H s → RelV x v → s.heap.IsSliceOf sl vl vu .none → IsPart vl lo → IsPart vu hi → r x lo hi H Q →
    ∃ T id, typeLookup (.type T) "__getitem__" = pure (some (.builtin id)) ∧ s.TypeIs v T ∧ wpAny (model X.prog X.w) X.A (getItem v (.ref sl)) (EP X pins σ Q) X.xe s
theorem SlR.or {r r' : V → Option Int → Option Int → Hp → VK → Prop} (h : SlR X r) (h' : SlR X r') : SlR X (fun x lo hi H Q => r x lo hi H Q ∨ r' x lo hi H Q) := by
  intro pins s σ H x v vl vu lo hi sl Q I rx hs pl pu q
  rcases q with q | q
  · exact h pins s σ H x v vl vu lo hi sl Q I rx hs pl pu q
  · exact h' pins s σ H x v vl vu lo hi sl Q I rx hs pl pu q
def tSl (r : V → Option Int → Option Int → Hp → VK → Prop) (te : TE) (tl th : TO) : TE := fun σ H Q => te σ H fun x H1 => tl σ H1 fun l H2 => th σ H2 fun u H3 => r x l u H3 Q
theorem pe_slice {r : V → Option Int → Option Int → Hp → VK → Prop} (hr : SlR X r) (he : PE X e te) (hl : PO X lo tl) (hu : PO X hi th) : PE X (.Subscript e (.Slice lo hi none p2) pos) (tSl r te tl th) := by
  intro pins s σ H Q I h
  refine Subscript_ (thn (he pins s σ H _ I h) fun v s1 ⟨x, H1, I1, r1, q1⟩ => ?_)
  refine wpAny_Slice (thn (hl pins s1 σ H1 _ I1 q1) fun vl s2 ⟨l, H2, I2, pl, q2⟩ => thn (hu pins s2 σ H2 _ I2 q2) fun vu s3 ⟨u, H3, I3, pu, q3⟩ => ?_)
  rw [evalPart_none]
  refine wpAny_pure ?_
  have I4 : Inv X pins σ H3 { s3 with heap := s3.heap.push { cls := .type "slice", data := .fields #[vl, vu, .none] } } := I3.kept (t' := s3.toks) fun b ob q => Heap.get?_push_of_some _ q
  obtain ⟨T, id, hT, ht, hg⟩ := hr pins { s3 with heap := s3.heap.push { cls := .type "slice", data := .fields #[vl, vu, .none] } } σ H3 x v vl vu l u s3.heap.objs.size Q I4 r1 (Heap.IsSliceOf.new ..) pl pu q3
  show wpAny (model X.prog X.w) X.A (subscriptTail e (.Slice lo hi none p2) v (.ref s3.heap.objs.size)) (EP X pins σ Q) X.xe { s3 with heap := s3.heap.push { cls := .type "slice", data := .fields #[vl, vu, .none] } }
  exact tail_any (ops := [.ref s3.heap.objs.size, v]) ht hT hg (by with_unfolding_all rfl)
def cutV (xs : List V) (lo hi : Option Int) : List V := (xs.drop (HT.sIx xs.length 0 lo)).take (HT.sIx xs.length xs.length hi - HT.sIx xs.length 0 lo)
theorem cutV_length (xs : List V) (lo hi : Option Int) : (cutV xs lo hi).length ≤ xs.length := by
  unfold cutV
  rw [List.length_take, List.length_drop]
  omega
end
end L2
namespace L2
open PySem PySem.Spec PyProof.Rows
def ixN (n : Nat) (i : Int) : Option Nat := if 0 ≤ i then (if i < n then some i.toNat else none) else if -(n : Int) ≤ i then some (i + n).toNat else none
def atI {α : Type} (xs : List α) (i : Int) : Option α := (ixN xs.length i).bind fun j => xs[j]?
theorem ixN_seq {n : Nat} {i : Int} {j : Nat} (h : ixN n i = some j) : seqIndex? i n = some j ∧ j < n ∧ -(n : Int) ≤ i ∧ i < n := by
  unfold ixN at h
  by_cases h0 : 0 ≤ i
  · rw [if_pos h0] at h
    by_cases h1 : i < n
    · rw [if_pos h1] at h
      have e : i.toNat = j := Option.some.inj h
      exact ⟨by rw [seqIndex_of h0 h1, e], by omega, by omega, h1⟩
    · rw [if_neg h1] at h; cases h
  · rw [if_neg h0] at h
    by_cases h1 : -(n : Int) ≤ i
    · rw [if_pos h1] at h
      have e : (i + n).toNat = j := Option.some.inj h
      exact ⟨by rw [seqIndex_neg (by omega) h1, e], by omega, h1, by omega⟩
    · rw [if_neg h1] at h; cases h
theorem atI_get {α : Type} {xs : List α} {i : Int} {v : α} (h : atI xs i = some v) : ∃ j, seqIndex? i xs.length = some j ∧ xs[j]? = some v ∧ j < xs.length ∧ -(xs.length : Int) ≤ i ∧ i < xs.length := by
  unfold atI at h
  cases e : ixN xs.length i with
  | none => rw [e] at h; cases h
  | some j =>
    rw [e] at h
    obtain ⟨h1, h2, h3, h4⟩ := ixN_seq e
    exact ⟨j, h1, h, h2, h3, h4⟩
def PlainIx (b : Expr) : Prop := ∀ o i, subscripted b false o i = operate [o, i] (getItem o i)
def IxR (X : Cx) (r : R2) : Prop :=
  ∀ (value slice : Expr) (pins : List (Addr × Obj)) (s : Shared) (σ : St) (H : Hp) (x y : V) (v u : Value) (Q : VK), Inv X pins σ H s → RelV x v → RelV y u → r x y H Q →
    subscripted slice false v u = operate [v, u] (getItem v u) → wpAny (model X.prog X.w) X.A (subscriptTail value slice v u) (EP X pins σ Q) X.xe s
def MtR (X : Cx) (id : String) (r : V → List V → Hp → VK → Prop) : Prop :=
  ∀ (pins : List (Addr × Obj)) (s : Shared) (σ : St) (H : Hp) (x : V) (xs : List V) (v : Value) (us : List Value) (Q : VK), Inv X pins σ H s → RelV x v → Vals xs us → r x xs H Q →
    wpAny (model X.prog X.w) X.A (call (.builtin id) (v :: us)) (EP X pins σ Q) X.xe s
section
variable {X : Cx} {a b : Expr} {ta tb : TE} {pos : Pos}
theorem IxR.or {r r' : R2} (h : IxR X r) (h' : IxR X r') : IxR X (fun x y H Q => r x y H Q ∨ r' x y H Q) := by
  intro value slice pins s σ H x y v u Q I rx ry q hs
  rcases q with q | q
  · exact h value slice pins s σ H x y v u Q I rx ry q hs
  · exact h' value slice pins s σ H x y v u Q I rx ry q hs
theorem MtR.or {id : String} {r r' : V → List V → Hp → VK → Prop} (h : MtR X id r) (h' : MtR X id r') : MtR X id (fun x xs H Q => r x xs H Q ∨ r' x xs H Q) := by
  intro pins s σ H x xs v us Q I rx rs q
  rcases q with q | q
  · exact h pins s σ H x xs v us Q I rx rs q
  · exact h' pins s σ H x xs v us Q I rx rs q
theorem pe_ix {r : R2} (hr : IxR X r) (ha : PE X a ta) (hb : PE X b tb) (hs : PlainIx b) : PE X (.Subscript a b pos) (tOp r ta tb) := by
  intro pins s σ H Q I h
  exact Subscript_ (binT ha hb I h fun v u s2 x y H2 I2 rx ry q => hr a b pins s2 σ H2 x y v u Q I2 rx ry q (hs _ _))
def rIxL (K : PySem.W.Frag) : R2 := fun x y H Q => ∃ p xs i v, x = .ref p ∧ y = .int i ∧ SqL K H p xs ∧ atI xs i = some v ∧ Q v H
def rIxT (K : PySem.W.Frag) : R2 := fun x y H Q => ∃ p xs i v, x = .ref p ∧ y = .int i ∧ SqT K H p xs ∧ atI xs i = some v ∧ Q v H
def rIxS : R2 := fun x y H Q => ∃ z i c, x = .str z ∧ y = .int i ∧ z.length ≤ sizeLine ∧ atI z.cps.toList i = some c ∧ Q (.str ⟨#[c]⟩) H
theorem ix_list : IxR X (rIxL X.K) := by
  intro value slice pins s σ H x y v u Q I rx ry h hs
  obtain ⟨p, xs, i, z, rfl, rfl, hq, he, q⟩ := h
  cases rx
  obtain ⟨t, rfl⟩ := ry
  obtain ⟨its, r, pl, hz⟩ := I.list hq
  obtain ⟨j, h1, h2, h3, h4, h5⟩ := atI_get he
  obtain ⟨w, ew, rw'⟩ := r.get h2
  have hl := r.length
  have hn := line63
  have fin : EP X pins σ Q w s := ⟨z, H, I, rw', q⟩
  by_cases h0 : 0 ≤ i
  · have hj : i.toNat = j := by
      rw [seqIndex_of h0 h5] at h1
      exact Option.some.inj h1
    exact item_listR pl.isList h0 (by omega) (by rw [hj]; simpa using ew) fin hs
  · have hj : (i + (its.toArray.size : Int)).toNat = j := by
      rw [seqIndex_neg (by omega) h4] at h1
      rw [List.size_toArray, ← hl]
      exact Option.some.inj h1
    exact subscriptTail_builtinR (x := w) pl.isList.typeIs slot_list_getitem.lookup
      (wpAny_getItem_list_neg (Q := fun r s' => r = w ∧ EP X pins σ Q r s') pl.isList (by omega) (by rw [List.size_toArray] <;> omega) (by omega) (by rw [hj]; simpa using ew) ⟨rfl, fin⟩) hs
theorem ix_tup : IxR X (rIxT X.K) := by
  intro value slice pins s σ H x y v u Q I rx ry h hs
  obtain ⟨p, xs, i, z, rfl, rfl, hq, he, q⟩ := h
  cases rx
  obtain ⟨t, rfl⟩ := ry
  obtain ⟨its, r, pl, hz⟩ := I.tuple hq
  obtain ⟨j, h1, h2, h3, h4, h5⟩ := atI_get he
  obtain ⟨w, ew, rw'⟩ := r.get h2
  have hl := r.length
  have hn := line63
  have fin : EP X pins σ Q w s := ⟨z, H, I, rw', q⟩
  exact subscriptTail_builtinR (x := w) pl.typeIs slot_tuple_getitem.lookup
    (getItem_tuple (j := j) (Q := fun r s' => r = w ∧ EP X pins σ Q r s') pl (by omega) (by omega) (by rw [List.size_toArray, ← hl]; exact h1) (by simpa using ew) ⟨rfl, fin⟩) hs
theorem ix_str : IxR X rIxS := by
  intro value slice pins s σ H x y v u Q I rx ry h hs
  obtain ⟨z, i, c, rfl, rfl, hz, he, q⟩ := h
  obtain ⟨t, rfl⟩ := rx
  obtain ⟨t', rfl⟩ := ry
  obtain ⟨j, h1, h2, h3, h4, h5⟩ := atI_get he
  have hl : z.cps.toList.length = z.length := by simp [Str.length]
  rw [hl] at h1 h4 h5
  have hn := line63
  exact tail_any (typeIs_str s z t) slot_str_getitem.lookup (getItem_str (c := c) (by
    have e1 : decide (i < -(2 ^ 63 : Int)) = false := decide_eq_false (by omega)
    have e2 : decide (i ≥ 2 ^ 63) = false := decide_eq_false (by omega)
    rw [e1, e2, Bool.or_false]) (by rw [h1]; simpa using h2) ⟨.str ⟨#[c]⟩, H, I.tok _, ⟨_, rfl⟩, q⟩) hs
def rIx (K : PySem.W.Frag) : R2 := fun x y H Q => rIxL K x y H Q ∨ rIxT K x y H Q ∨ rIxS x y H Q
theorem ix_seq : IxR X (rIx X.K) := ix_list.or (ix_tup.or ix_str)
theorem Inv.lst {pins : List (Addr × Obj)} {σ : St} {H : Hp} {s : Shared} {p : Addr} {xs : List V} (I : Inv X pins σ H s) (h : H p = some (.lst xs)) :
    ∃ (its : List Value) (n : Nat), Vals xs its ∧ s.heap.get? p = some { cls := .type "list", data := .seq its.toArray n } ∧ xs.length ≤ sizeLine := by
  obtain ⟨z, its, n, r, e⟩ := I.hok p _ h
  exact ⟨its, n, r, e, z⟩
theorem slice_bounds (lo hi : Option Int) (n : Nat) : (sliceBounds lo hi none n).1 = ((HT.sIx n 0 lo : Nat) : Int) ∧ (sliceBounds lo hi none n).2.1 = ((HT.sIx n n hi : Nat) : Int) ∧ (sliceBounds lo hi none n).2.2 = 1 := by
  refine ⟨?_, ?_, rfl⟩
  · cases lo with
    | none => simp [sliceBounds, HT.sIx]
    | some i =>
      simp only [sliceBounds, HT.sIx, Option.getD_none, show (1 : Int) > 0 by decide, if_true]
      by_cases h : i < 0
      · simp only [h, if_true] <;> omega
      · simp only [h, if_false] <;> omega
  · cases hi with
    | none => simp [sliceBounds, HT.sIx]
    | some i =>
      simp only [sliceBounds, HT.sIx, Option.getD_none, show (1 : Int) > 0 by decide, if_true]
      by_cases h : i < 0
      · simp only [h, if_true] <;> omega
      · simp only [h, if_false] <;> omega
theorem slicePick_cut (its : List Value) (lo hi : Option Int) : slicePick its.toArray lo hi none = ((its.drop (HT.sIx its.length 0 lo)).take (HT.sIx its.length its.length hi - HT.sIx its.length 0 lo)).toArray := by
  obtain ⟨h1, h2, h3⟩ := slice_bounds lo hi its.toArray.size
  unfold slicePick
  rw [h1, h2, h3]
  simp only [sliceRange_one, pick_run, List.size_toArray] <;> rfl
def rSlL (K : PySem.W.Frag) : V → Option Int → Option Int → Hp → VK → Prop := fun x lo hi H Q => ∃ a xs, x = .ref a ∧ SqL K H a xs ∧ ∀ p, H p = none → Q (.ref p) (upd H p (.lst (cutV xs lo hi)))
theorem sl_list : SlR X (rSlL X.K) := by
  intro pins s σ H x v vl vu lo hi sl Q I rx hs pl pu h
  obtain ⟨a, xs, rfl, hx, q⟩ := h
  cases rx
  obtain ⟨its, r, ht, hz⟩ := I.list hx
  have hlen := r.length
  refine ⟨"list", _, slot_list_getitem.lookup, ht.isList.typeIs, ?_⟩
  refine wpAny_getItem_list_slice ht.isList hs pl pu .none (by simp) ?_ (by rw [List.size_toArray] <;> omega)
  rw [slicePick_cut, ← hlen]
  refine ⟨.ref s.heap.objs.size, _, I.laid (t' := s.toks) (o := .lst (cutV xs lo hi)) (fun b ob q => Heap.get?_push_of_some _ q) (Nat.le_refl _) ?_, rfl, q _ (I.hok.fresh (Nat.le_refl _))⟩
  exact ⟨Nat.le_trans (cutV_length xs lo hi) hz, _, 0, (r.drop (HT.sIx xs.length 0 lo)).take (HT.sIx xs.length xs.length hi - HT.sIx xs.length 0 lo), Heap.get?_push_size _ rfl⟩
def flatV : V → Bool
  | .non => true
  | .bl _ => true
  | .int _ => true
  | .str _ => true
  | _ => false
def eqV : V → V → Bool
  | .non, .non => true
  | .bl a, .bl b => a == b
  | .bl a, .int b => (if a then 1 else 0) == b
  | .int a, .bl b => a == (if b then 1 else 0)
  | .int a, .int b => a == b
  | .str a, .str b => a == b
  | _, _ => false
theorem eqAt_V {A : Around} {s : Shared} {y x : V} {u v : Value} (ry : RelV y u) (rx : RelV x v) (fy : flatV y = true) (fx : flatV x = true) : SeqAt.EqAt A s u v (eqV y x) := by
  cases y with
  | non =>
    cases ry
    cases x with
    | non => cases rx; exact SeqAt.EqAt.same _
    | bl b => cases rx; exact SeqAt.EqAt.none_bool b
    | int b => obtain ⟨t, rfl⟩ := rx; exact SeqAt.EqAt.none_int b t
    | str b => obtain ⟨t, rfl⟩ := rx; exact SeqAt.EqAt.none_str b t
    | _ => exact absurd (show false = true from fx) Bool.false_ne_true
  | bl a =>
    cases ry
    cases x with
    | non => cases rx; exact SeqAt.EqAt.bool_none a
    | bl b => cases rx; exact SeqAt.EqAt.bool_bool a b
    | int b => obtain ⟨t, rfl⟩ := rx; exact SeqAt.EqAt.bool_int a b t
    | str b => obtain ⟨t, rfl⟩ := rx; exact SeqAt.EqAt.bool_str a b t
    | _ => exact absurd (show false = true from fx) Bool.false_ne_true
  | int a =>
    obtain ⟨t', rfl⟩ := ry
    cases x with
    | non => cases rx; exact SeqAt.EqAt.int_none a t'
    | bl b => cases rx; exact SeqAt.EqAt.int_bool a t' b
    | int b => obtain ⟨t, rfl⟩ := rx; exact SeqAt.EqAt.int_int a t' b t
    | str b => obtain ⟨t, rfl⟩ := rx; exact SeqAt.EqAt.int_str a t' b t
    | _ => exact absurd (show false = true from fx) Bool.false_ne_true
  | str a =>
    obtain ⟨t', rfl⟩ := ry
    cases x with
    | non => cases rx; exact SeqAt.EqAt.str_none a t'
    | bl b => cases rx; exact SeqAt.EqAt.str_bool a t' b
    | int b => obtain ⟨t, rfl⟩ := rx; exact SeqAt.EqAt.str_int a t' b t
    | str b => obtain ⟨t, rfl⟩ := rx; exact SeqAt.EqAt.str_str a t' b t
    | _ => exact absurd (show false = true from fx) Bool.false_ne_true
  | _ => exact absurd (show false = true from fy) Bool.false_ne_true
def eqU (x : V) (u : Value) : Bool := match u with
  | .none => eqV .non x
  | .bool b => eqV (.bl b) x
  | .int i _ => eqV (.int i) x
  | .str z _ => eqV (.str z) x
  | _ => false
theorem eqU_of {x y : V} {u : Value} (r : RelV y u) (f : flatV y = true) : eqU x u = eqV y x := by
  cases y with
  | non => cases r; rfl
  | bl b => cases r; rfl
  | int i => obtain ⟨t, rfl⟩ := r; rfl
  | str z => obtain ⟨t, rfl⟩ := r; rfl
  | _ => exact absurd (show false = true from f) Bool.false_ne_true
theorem any_eqU {x : V} : ∀ {xs : List V} {us : List Value}, Vals xs us → xs.all flatV = true → us.any (eqU x) = xs.any fun y => eqV y x
  | _, _, .nil, _ => rfl
  | y :: xs, u :: us, .cons r t, f => by
    rw [List.all_cons, Bool.and_eq_true] at f
    rw [List.any_cons, List.any_cons, eqU_of r f.1, any_eqU t f.2]
theorem mem_eqAt {A : Around} {s : Shared} {x : V} {v : Value} (rx : RelV x v) (fx : flatV x = true) : ∀ {xs : List V} {us : List Value}, Vals xs us → xs.all flatV = true → ∀ u ∈ us, SeqAt.EqAt A s u v (eqU x u)
  | _, _, .nil, _ => fun u hu => by cases hu
  | y :: xs, u :: us, .cons r t, f => fun u' hu => by
    rw [List.all_cons, Bool.and_eq_true] at f
    rcases List.mem_cons.mp hu with rfl | hu
    · rw [eqU_of r f.1]; exact eqAt_V r rx f.1 fx
    · exact mem_eqAt rx fx t f.2 u' hu
def inV (x : V) (xs : List V) : Bool := xs.any fun y => eqV y x
def rIn (K : PySem.W.Frag) (neg : Bool) : R2 := fun x y H Q => ∃ p xs, y = .ref p ∧ (SqL K H p xs ∨ SqT K H p xs) ∧ flatV x = true ∧ xs.all flatV = true ∧ Q (.bl (if neg then !inV x xs else inV x xs)) H
theorem op_in_seq : OpR X (compareOp .In) (rIn X.K false) := by
  intro pins s σ H x y v u Q I rx ry h
  obtain ⟨p, xs, rfl, hq, fx, fs, q⟩ := h
  cases ry
  rcases hq with hq | hq
  · obtain ⟨its, r, pl, hz⟩ := I.list hq
    refine SeqAt.in_listAt (eqU x) pl.isList (fun w hw => mem_eqAt rx fx r fs w (by simpa using hw)) ⟨.bl _, H, I, rfl, ?_⟩
    rw [show its.toArray.any (eqU x) = its.any (eqU x) by simp, any_eqU r fs]
    exact q
  · obtain ⟨its, r, pl, hz⟩ := I.tuple hq
    refine SeqAt.in_tupleAt (eqU x) pl (fun w hw => mem_eqAt rx fx r fs w (by simpa using hw)) ⟨.bl _, H, I, rfl, ?_⟩
    rw [show its.toArray.any (eqU x) = its.any (eqU x) by simp, any_eqU r fs]
    exact q
theorem call_len_seq : CallR X (.builtin "len") (fun xs H Q => ∃ p ys, xs = [.ref p] ∧ (SqL X.K H p ys ∨ SqT X.K H p ys) ∧ Q (.int ys.length) H) := by
  intro pins s σ H xs us Q I r h
  obtain ⟨p, ys, rfl, hq, q⟩ := h
  obtain ⟨u, rfl, rx⟩ := vals1 r
  cases rx
  have hn := line63
  rcases hq with hq | hq
  · obtain ⟨its, r', pl, hz⟩ := I.list hq
    have hlen := r'.length
    exact Calls.call_len_list pl.isList (by simp only [List.size_toArray] <;> omega) ⟨.int ys.length, H, I.tok _, ⟨s.toks + 1, by rw [List.size_toArray, hlen]⟩, q⟩
  · obtain ⟨its, r', pl, hz⟩ := I.tuple hq
    have hlen := r'.length
    exact len_tuple pl (by simp only [List.size_toArray] <;> omega) ⟨.int ys.length, H, I.tok _, ⟨s.toks + 1, by rw [List.size_toArray, hlen]⟩, q⟩
theorem CallR.or {f : Value} {r r' : List V → Hp → VK → Prop} (h : CallR X f r) (h' : CallR X f r') : CallR X f (fun xs H Q => r xs H Q ∨ r' xs H Q) := by
  intro pins s σ H xs us Q I rs q
  rcases q with q | q
  · exact h pins s σ H xs us Q I rs q
  · exact h' pins s σ H xs us Q I rs q
theorem call_list_of : CallR X (.type "list") (fun xs H Q => ∃ p ys, xs = [.ref p] ∧ (SqL X.K H p ys ∨ SqT X.K H p ys) ∧ ∀ l, H l = none → Q (.ref l) (upd H l (.lst ys))) := by
  intro pins s σ H xs us Q I r h
  obtain ⟨p, ys, rfl, hq, q⟩ := h
  obtain ⟨u, rfl, rx⟩ := vals1 r
  cases rx
  have fin : ∀ (its : List Value), Vals ys its → ys.length ≤ sizeLine → ∀ (h' : Heap) (c' : Nat), (∀ b o', s.heap.get? b = some o' → h'.get? b = some o') →
      h'.get? s.heap.objs.size = some { cls := .type "list", dict := none, data := .seq its.toArray c', slots := #[] } → EP X pins σ Q (.ref s.heap.objs.size) { s with heap := h' } := fun its r' hz h' c' kp e =>
    ⟨.ref s.heap.objs.size, _, I.laid (t' := s.toks) kp (Nat.le_refl _) (show ObjOk X.prog X.w _ h' _ (.lst ys) from ⟨hz, its, c', r', e⟩), rfl, q _ (I.hok.fresh (Nat.le_refl _))⟩
  rcases hq with hq | hq
  · obtain ⟨its, r', pl, hz⟩ := I.list hq
    have hlen := r'.length
    obtain ⟨o, ho, hc, n, hd⟩ := pl.isList
    exact call_list_seq p (.inl rfl) ho hc hd (fun h' c' kp e => fin its r' hz h' c' kp e) (by simp only [List.size_toArray] <;> omega)
  · obtain ⟨its, r', pl, hz⟩ := I.tuple hq
    have hlen := r'.length
    obtain ⟨o, ho, hc, n, hd⟩ := pl
    exact call_list_seq p (.inr rfl) ho hc hd (fun h' c' kp e => fin its r' hz h' c' kp e) (by simp only [List.size_toArray] <;> omega)
variable {o e : Expr} {es : List Expr} {to : TE} {t : TA} {name : Str} {apos cpos : Pos} {T id : String} {r : V → List V → Hp → VK → Prop}
end
end L2
namespace L2
open PySem PySem.Spec PyProof.Rows
theorem Vals.one : ∀ {x : V} {us : List Value}, Vals [x] us → ∃ u, us = [u] ∧ RelV x u
  | _, _, .cons r .nil => ⟨_, rfl, r⟩
theorem Vals.zero : ∀ {us : List Value}, Vals [] us → us = []
  | _, .nil => rfl
theorem Vals.rep {xs : List V} {us : List Value} (h : Vals xs us) : ∀ k : Nat, Vals (List.replicate k xs).flatten (List.replicate k us).flatten
  | 0 => .nil
  | k + 1 => by
    rw [List.replicate_succ, List.replicate_succ, List.flatten_cons, List.flatten_cons]
    exact Vals.append h (Vals.rep h k)
section
variable {X : Cx} {pins : List (Addr × Obj)} {σ : St} {H : Hp} {s : Shared} {l b : Addr} {xs ys zs : List V}
theorem Inv.lnew {its : List Value} {t' : Nat} (I : Inv X pins σ H s) (hv : Vals ys its) (hz : ys.length ≤ sizeLine) :
    Inv X pins σ (upd H s.heap.objs.size (.lst ys)) { s with heap := s.heap.push { cls := .type "list", data := .seq its.toArray }, toks := t' } :=
  I.laid (fun _ _ q => Heap.get?_push_of_some _ q) (Nat.le_refl _) ⟨hz, its, 0, hv, Heap.get?_push_size _ rfl⟩
theorem Inv.fresh (I : Inv X pins σ H s) : H s.heap.objs.size = none := I.hok.fresh (Nat.le_refl _)
end
section
variable {X : Cx}
end
section
variable {prog : Program} {w : World} {A : Around} {E : Value → Shared → Prop} {s : Shared}
set_option maxRecDepth 100000 in
end
section
variable {X : Cx}
end
end L2
namespace L2
open PySem PySem.Spec PyProof.Rows
theorem Vals.strs : ∀ {xs : List Str} {us : List Value}, Vals (xs.map V.str) us → StrsAre us xs
  | [], us, h => by
    rw [List.map_nil] at h
    cases h
    exact StrsAre.nil
  | x :: xs, us, h => by
    rw [List.map_cons] at h
    cases h with
    | cons r t =>
      obtain ⟨k, rfl⟩ := r
      exact StrsAre.cons x k (Vals.strs t)
section
variable {prog : Program} {w : World} {A : Around} {E : Value → Shared → Prop} {s : Shared} {l : Addr} {its : List Value} {ns : List Int} {Q : Value → Shared → Prop}
end
section
variable {X : Cx}
end
section
variable {X : Cx}
end
section
variable {X : Cx}
end
section
variable {X : Cx}
end
mutual
inductive Dp (K : PySem.W.Frag) (H : Hp) : V → PyData → Prop
  | non : Dp K H .non .none
  | bl (b : Bool) : Dp K H (.bl b) (.bool b)
  | int (i : Int) : Dp K H (.int i) (.int i)
  | str (x : Str) : Dp K H (.str x) (.str x)
  | lst {a : Addr} {xs : List V} {ds : List PyData} : SqL K H a xs → DpAll K H xs ds → Dp K H (.ref a) (.list ds)
  | tup {a : Addr} {xs : List V} {ds : List PyData} : SqT K H a xs → DpAll K H xs ds → Dp K H (.ref a) (.tuple ds)
inductive DpAll (K : PySem.W.Frag) (H : Hp) : List V → List PyData → Prop
  | nil : DpAll K H [] []
  | cons {v : V} {vs : List V} {d : PyData} {ds : List PyData} : Dp K H v d → DpAll K H vs ds → DpAll K H (v :: vs) (d :: ds)
end
section
variable {X : Cx} {pins : List (Addr × Obj)} {σ : St} {H : Hp} {s : Shared}
mutual
theorem Dp.reads (I : Inv X pins σ H s) : ∀ (d : PyData) (v : V) (u : Value), Dp X.K H v d → RelV v u → ∃ as, Reads s.heap u d as
  | .none, _, _, h, r => by
    cases h
    cases r
    exact ⟨_, Reads.none⟩
  | .bool b, _, _, h, r => by
    cases h
    cases r
    exact ⟨_, Reads.bool b⟩
  | .int i, _, _, h, r => by
    cases h
    obtain ⟨t, rfl⟩ := r
    exact ⟨_, Reads.int i t⟩
  | .str x, _, _, h, r => by
    cases h
    obtain ⟨t, rfl⟩ := r
    exact ⟨_, Reads.str x t⟩
  | .list ds, _, _, h, r => by
    cases h with
    | lst hs ha =>
      cases r
      obtain ⟨its, rv, ⟨o, n, ho, hc, _, hd⟩, _⟩ := I.list hs
      obtain ⟨as, hr⟩ := Dp.readsAll I ds _ its ha rv
      exact ⟨_, Reads.list ho hc hd hr⟩
  | .tuple ds, _, _, h, r => by
    cases h with
    | tup hs ha =>
      cases r
      obtain ⟨its, rv, ⟨o, ho, hc, n, hd⟩, _⟩ := I.tuple hs
      obtain ⟨as, hr⟩ := Dp.readsAll I ds _ its ha rv
      exact ⟨_, Reads.tuple ho hc hd hr⟩
  | .dict _, _, _, h, _ => by cases h
theorem Dp.readsAll (I : Inv X pins σ H s) : ∀ (ds : List PyData) (vs : List V) (us : List Value), DpAll X.K H vs ds → Vals vs us → ∃ as, ReadsAll s.heap us ds as
  | [], _, _, h, r => by
    cases h
    cases r
    exact ⟨_, ReadsAll.nil⟩
  | d :: ds, _, _, h, r => by
    cases h with
    | cons h1 h2 =>
      cases r with
      | cons r1 r2 =>
        obtain ⟨as, q1⟩ := Dp.reads I d _ _ h1 r1
        obtain ⟨bs, q2⟩ := Dp.readsAll I ds _ _ h2 r2
        exact ⟨_, ReadsAll.cons q1 q2⟩
end
end
section
variable {X : Cx}
def rEqD (K : PySem.W.Frag) : R2 := fun x y H Q => ∃ d e, Dp K H x d ∧ Dp K H y e ∧ SeqAt.shaped d = true ∧ SeqAt.shaped e = true ∧ Q (.bl (PyData.eqv d e)) H
theorem op_eqD (hu : X.A.units + 64 < cLine) : OpR X (compareOp .Eq) (rEqD X.K) := by
  intro pins s σ H x y v u Q I rx ry h
  obtain ⟨d, e, hd, he, sd, se, q⟩ := h
  obtain ⟨as, r1⟩ := Dp.reads I d x v hd rx
  obtain ⟨bs, r2⟩ := Dp.reads I e y u he ry
  exact SeqAt.compareEq_shaped r1 r2 sd se hu ⟨.bl _, H, I, rfl, q⟩
end
end L2
namespace L2
open PySem PySem.Spec PyProof.Rows
abbrev CellAt (h : Heap) (c : Addr) (v : Option Value) : Prop := h.IsCell c v
def relS (scope sc : Scope) : Scope :=
  { scope with names := scope.names.map fun (n, k) => if (k == .free && sc.kind == .function && sc.names.lookup n == some .cell) then (n, .cell) else (n, k) }
def cloFrom (cells : List (Str × Addr)) : List (Str × NameKind) → List (Str × Addr) → List (Str × Addr)
  | [], acc => acc
  | (n, k) :: r, acc => if k == .free then cloFrom cells r ((n, (cells.lookup n).getD 0) :: acc) else cloFrom cells r acc
theorem closure_loop (env : Env) (f : Str × NameKind → List (Str × Addr) → Sem (ForInStep (List (Str × Addr))))
    (hf : ∀ n k c, f (n, k) c = if k == .free then (do let a ← cellOf env n; pure (.yield ((n, a) :: c))) else pure (.yield c)) :
    ∀ (names : List (Str × NameKind)) (acc : List (Str × Addr)), (∀ y ∈ names, y.2 = .free → ∃ c, env.cells.lookup y.1 = some c) → forIn names acc f = pure (cloFrom env.cells names acc)
  | [], acc, _ => by rw [List.forIn_nil]; rfl
  | (n, k) :: r, acc, h => by
    rw [List.forIn_cons, hf]
    have ih := fun acc => closure_loop env f hf r acc fun y hy => h y (List.mem_cons_of_mem _ hy)
    unfold cloFrom
    by_cases hk : (k == NameKind.free) = true
    · rw [if_pos hk, if_pos hk]
      obtain ⟨c, hc⟩ := h (n, k) List.mem_cons_self (by simpa using hk)
      have e : cellOf env n = pure c := by unfold cellOf; rw [hc]
      rw [e]
      have e2 : (env.cells.lookup n).getD 0 = c := by rw [hc]; rfl
      rw [e2]
      exact ih _
    · rw [if_neg hk, if_neg hk]
      exact ih _
theorem closure_ok {scope : Scope} {env : Env} (h : ∀ y ∈ scope.names, y.2 = .free → ∃ c, env.cells.lookup y.1 = some c) : closureFor scope env = pure (cloFrom env.cells scope.names []) := by
  simp only [closureFor]
  rw [closure_loop env _ (fun n k c => rfl) scope.names [] h]
  rfl
theorem mem_lookup {α : Type} : ∀ {l : List (Str × α)} {n : Str} {c : α}, (n, c) ∈ l → ∃ c', l.lookup n = some c'
  | (k, v) :: r, n, c, h => by
    rw [List.lookup_cons]
    cases hb : n == k with
    | true => exact ⟨_, rfl⟩
    | false =>
      rcases List.mem_cons.mp h with e | h
      · cases e; simp at hb
      · exact mem_lookup h
theorem cloFrom_mem {cells : List (Str × Addr)} : ∀ {names : List (Str × NameKind)} {acc : List (Str × Addr)} {n : Str} {c : Addr}, (n, c) ∈ cloFrom cells names acc → (n, c) ∈ acc ∨ ((n, .free) ∈ names ∧ c = (cells.lookup n).getD 0)
  | [], _, _, _, h => .inl h
  | (m, k) :: r, acc, n, c, h => by
    unfold cloFrom at h
    split at h
    · rename_i hk
      have hk : k = .free := by simpa using hk
      rcases cloFrom_mem h with h | ⟨h1, h2⟩
      · rcases List.mem_cons.mp h with e | h
        · cases e; exact .inr ⟨hk ▸ List.mem_cons_self, rfl⟩
        · exact .inl h
      · exact .inr ⟨List.mem_cons_of_mem _ h1, h2⟩
    · rcases cloFrom_mem h with h | ⟨h1, h2⟩
      · exact .inl h
      · exact .inr ⟨List.mem_cons_of_mem _ h1, h2⟩
theorem cloFrom_acc {cells : List (Str × Addr)} : ∀ {names : List (Str × NameKind)} {acc : List (Str × Addr)} {p : Str × Addr}, p ∈ acc → p ∈ cloFrom cells names acc
  | [], _, _, h => h
  | (m, k) :: r, acc, p, h => by
    unfold cloFrom
    split
    · exact cloFrom_acc (List.mem_cons_of_mem _ h)
    · exact cloFrom_acc h
theorem cloFrom_has {cells : List (Str × Addr)} : ∀ {names : List (Str × NameKind)} {acc : List (Str × Addr)} {n : Str}, (n, .free) ∈ names → (n, (cells.lookup n).getD 0) ∈ cloFrom cells names acc
  | (m, k) :: r, acc, n, h => by
    unfold cloFrom
    rcases List.mem_cons.mp h with e | h
    · cases e
      exact cloFrom_acc List.mem_cons_self
    · split
      · exact cloFrom_has h
      · exact cloFrom_has h
theorem cells_mem : ∀ {names : List (Str × NameKind)} {h : Heap} {acc : List (Str × Addr)} {x : Str} {c : Addr}, (x, c) ∈ cellsFrom h.objs.size names acc →
    (x, c) ∈ acc ∨ ((x, .cell) ∈ names ∧ h.objs.size ≤ c ∧ CellAt (pushCells h names) c none)
  | [], _, _, _, _, h => .inl h
  | (n, k) :: r, h, acc, x, c, hm => by
    unfold cellsFrom at hm
    unfold pushCells
    split at hm
    · rename_i hk
      rw [if_pos hk]
      have hk : k = .cell := by simpa using hk
      rw [← Heap.size_push h { cls := .type "cell", data := .cell none }] at hm
      rcases cells_mem hm with hm | ⟨h1, h2, h3⟩
      · rcases List.mem_cons.mp hm with e | hm
        · cases e
          exact .inr ⟨hk ▸ List.mem_cons_self, Nat.le_refl _, _, pushCells_keeps r _ _ _ (Heap.get?_push_size _ rfl), rfl⟩
        · exact .inl hm
      · rw [Heap.size_push] at h2
        exact .inr ⟨List.mem_cons_of_mem _ h1, Nat.le_of_succ_le h2, h3⟩
    · rename_i hk
      rw [if_neg hk]
      rcases cells_mem hm with hm | ⟨h1, h2, h3⟩
      · exact .inl hm
      · exact .inr ⟨List.mem_cons_of_mem _ h1, h2, h3⟩
theorem cells_acc : ∀ {names : List (Str × NameKind)} {n : Nat} {acc : List (Str × Addr)} {p : Str × Addr}, p ∈ acc → p ∈ cellsFrom n names acc
  | [], _, _, _, h => h
  | (m, k) :: r, n, acc, p, h => by
    unfold cellsFrom
    split
    · exact cells_acc (List.mem_cons_of_mem _ h)
    · exact cells_acc h
theorem cells_has : ∀ {names : List (Str × NameKind)} {n : Nat} {acc : List (Str × Addr)} {x : Str}, (x, .cell) ∈ names → ∃ c, (x, c) ∈ cellsFrom n names acc
  | (m, k) :: r, n, acc, x, h => by
    unfold cellsFrom
    rcases List.mem_cons.mp h with e | h
    · cases e
      exact ⟨n, cells_acc List.mem_cons_self⟩
    · split
      · exact cells_has h
      · exact cells_has h
theorem cells_inj : ∀ {names : List (Str × NameKind)} {h : Heap} {acc : List (Str × Addr)} {x y : Str} {c : Addr}, (∀ p ∈ acc, p.2 < h.objs.size) → (∀ x y c, (x, c) ∈ acc → (y, c) ∈ acc → x = y) →
    (x, c) ∈ cellsFrom h.objs.size names acc → (y, c) ∈ cellsFrom h.objs.size names acc → x = y
  | [], _, _, _, _, _, _, hi, h1, h2 => hi _ _ _ h1 h2
  | (n, k) :: r, h, acc, x, y, c, hl, hi, h1, h2 => by
    unfold cellsFrom at h1 h2
    split at h1
    · rename_i hk
      rw [if_pos hk] at h2
      rw [← Heap.size_push h { cls := .type "cell", data := .cell none }] at h1 h2
      refine cells_inj (h := h.push _) (fun p hp => ?_) (fun x y c a b => ?_) h1 h2
      · rw [Heap.size_push]
        rcases List.mem_cons.mp hp with rfl | hp
        · exact Nat.lt_succ_self _
        · exact Nat.lt_succ_of_lt (hl p hp)
      · rcases List.mem_cons.mp a with e | a <;> rcases List.mem_cons.mp b with e' | b
        · cases e; cases e'; rfl
        · cases e; exact absurd (hl _ b) (Nat.lt_irrefl _)
        · cases e'; exact absurd (hl _ a) (Nat.lt_irrefl _)
        · exact hi _ _ _ a b
    · rename_i hk
      rw [if_neg hk] at h2
      exact cells_inj hl hi h1 h2
theorem newEnv_comp {M : Model} {A : Around} {E : Value → Shared → Prop} {s : Shared} {scope : Scope} {globals : Addr} {closure : List (Str × Addr)} {qual : Str} {func : Option Addr} {code : Value} {around : Env} {builtins : Addr} {Q : Env → Shared → Prop}
    (h : Q (newEnv scope s.heap.objs.size globals (cellsFrom (s.heap.objs.size + 1) scope.names closure) qual func code (some around) builtins)
      { s with heap := pushCells (s.heap.push { cls := .type "dict", data := .dict #[] }) scope.names }) :
    wpAny M A (newFunctionEnv scope globals closure [] qual func code (some around) builtins) Q E s := by
  simp only [newFunctionEnv, Option.isSome_some, if_true]
  refine wpAny_bind (wpAny_alloc ?_)
  refine wpAny_bind (wpAny_layCells _ (fun n k c => rfl) scope.names closure _ _ ?_)
  rw [show ({ s with heap := s.heap.push { cls := .type "dict", data := .dict #[] } } : Shared).heap.objs.size = s.heap.objs.size + 1 from Heap.size_push ..]
  rw [List.forIn_nil]
  exact wpAny_bind (wpAny_pure (wpAny_pure h))
theorem lookup_relS {sc : Scope} : ∀ {names : List (Str × NameKind)} {x : Str} {k : NameKind},
    (names.map fun (n, k) => if (k == NameKind.free && sc.kind == .function && sc.names.lookup n == some .cell) then (n, NameKind.cell) else (n, k)).lookup x = some k →
    ∃ k', names.lookup x = some k' ∧ (k = k' ∨ (k' = .free ∧ k = .cell))
  | [], _, _, h => by simp at h
  | (n, k₀) :: r, x, k, h => by
    have ih := @lookup_relS sc r x k
    have h' : List.lookup x ((if (k₀ == NameKind.free && sc.kind == .function && sc.names.lookup n == some .cell) = true then (n, NameKind.cell) else (n, k₀)) :: (r.map _)) = some k := h
    cases hx : x == n with
    | true =>
      simp only [List.lookup_cons, hx]
      by_cases hc : (k₀ == NameKind.free && sc.kind == .function && sc.names.lookup n == some .cell) = true
      · rw [if_pos hc] at h'
        simp only [List.lookup_cons, hx] at h'
        cases h'
        simp only [Bool.and_eq_true, beq_iff_eq] at hc
        exact ⟨k₀, rfl, .inr ⟨hc.1.1, rfl⟩⟩
      · rw [if_neg hc] at h'
        simp only [List.lookup_cons, hx] at h'
        cases h'
        exact ⟨_, rfl, .inl rfl⟩
    | false =>
      simp only [List.lookup_cons, hx]
      by_cases hc : (k₀ == NameKind.free && sc.kind == .function && sc.names.lookup n == some .cell) = true
      · rw [if_pos hc] at h'
        simp only [List.lookup_cons, hx] at h'
        exact ih h'
      · rw [if_neg hc] at h'
        simp only [List.lookup_cons, hx] at h'
        exact ih h'
structure BlkOk (N : List Str) (sc scope : Scope) (own : List (Str × Nat)) : Prop where
  kind : scope.kind = .function
  uniq : ∀ y ∈ scope.names, scope.names.lookup y.1 = some y.2
  ix : ∀ p ∈ own, N[p.2]? = some p.1
  free : ∀ y ∈ scope.names, y.2 = .free → sc.names.lookup y.1 = some .cell ∨ sc.names.lookup y.1 = some .free
  own : ∀ y ∈ scope.names, y.2 = .local ∨ y.2 = .cell → y.1 ∈ own.map (·.1) ∨ y.1 ∉ N
def wipe (σ : St) : List Nat → St
  | [] => σ
  | v :: vs => (wipe σ vs).set v none
theorem wipe_length (σ : St) : ∀ vs : List Nat, (wipe σ vs).length = σ.length
  | [] => rfl
  | v :: vs => by unfold wipe; rw [List.length_set, wipe_length σ vs]
theorem wipe_some {σ : St} {i : Nat} {x : V} : ∀ {vs : List Nat}, (wipe σ vs)[i]? = some (some x) → σ[i]? = some (some x) ∧ i ∉ vs
  | [], h => ⟨h, by simp⟩
  | v :: vs, h => by
    unfold wipe at h
    by_cases hi : v = i
    · subst hi
      by_cases hv : v < (wipe σ vs).length
      · rw [List.getElem?_set_self hv] at h; cases h
      · rw [List.getElem?_eq_none (by simpa using hv)] at h; cases h
    · rw [List.getElem?_set_ne hi] at h
      obtain ⟨h1, h2⟩ := wipe_some h
      exact ⟨h1, by simp only [List.mem_cons, not_or]; exact ⟨fun e => hi e.symm, h2⟩⟩
abbrev Cx.blk (X : Cx) (s : Shared) (H : Hp) (scope : Scope) (cenv : Env) (fp : List Addr) : Cx := { X with s_0 := s, H_0 := H, env := cenv, outer := X.stack, ex := fp, fn := fun x => scope.names.lookup x == some .cell, pn := [], xe := fun _ _ => False }
section
variable {X : Cx} {pins : List (Addr × Obj)} {σ : St} {H : Hp} {s : Shared}
theorem block_start {scope : Scope} {own : List (Str × Nat)} {fp : List Addr} (I : Inv X pins σ H s) (ok : BlkOk X.N X.env.scope scope own) (hN : X.N.Nodup) (hfp : ∀ b ∈ fp, FpOk X pins H b ∧ b < s.heap.objs.size) :
    Inv (X.blk s H scope (compEnvC scope (cellsFrom (s.heap.objs.size + 1) scope.names (cloFrom X.env.cells scope.names [])) s.heap.objs.size X.env) fp) [] (wipe σ (own.map (·.2))) H { s with heap := pushCells (s.heap.push { cls := .type "dict", data := .dict #[] }) scope.names } := by
  have hfree : ∀ y ∈ scope.names, y.2 = .free → ∃ c, X.env.cells.lookup y.1 = some c := fun y hy e => by
    rcases ok.free y hy e with k | k
    · exact I.ok.has _ (.inl k)
    · exact I.ok.has _ (.inr k)
  generalize hcenv : compEnvC scope (cellsFrom (s.heap.objs.size + 1) scope.names (cloFrom X.env.cells scope.names [])) s.heap.objs.size X.env = cenv
  have kp : ∀ b o, s.heap.get? b = some o → (pushCells (s.heap.push { cls := .type "dict", data := .dict #[] }) scope.names).get? b = some o := fun b o e => pushCells_keeps _ _ _ _ (Heap.get?_push_of_some _ e)
  have hL : cenv.locals = s.heap.objs.size := by rw [← hcenv]; rfl
  have hcl : cenv.cells = cellsFrom (s.heap.objs.size + 1) scope.names (cloFrom X.env.cells scope.names []) := by rw [← hcenv]; rfl
  have hsc : cenv.scope = relS scope X.env.scope := by rw [← hcenv]; rfl
  rw [← Heap.size_push s.heap { cls := .type "dict", data := .dict #[] }] at hcl
  have cm : ∀ {y c}, (y, c) ∈ cloFrom X.env.cells scope.names [] → X.env.cells.lookup y = some c ∧ c < s.heap.objs.size := fun {y c} hm => by
    rcases cloFrom_mem hm with hm | ⟨h1, rfl⟩
    · cases hm
    · obtain ⟨c, hc⟩ := hfree _ h1 rfl
      rw [hc]
      obtain ⟨w, z⟩ := I.cell _ _ hc
      exact ⟨rfl, z.lt⟩
  have mem : ∀ {y c}, cenv.cells.lookup y = some c → (X.env.cells.lookup y = some c ∧ c < s.heap.objs.size) ∨ (s.heap.objs.size + 1 ≤ c ∧ CellAt (pushCells (s.heap.push { cls := .type "dict", data := .dict #[] }) scope.names) c none) := fun {y c} e => by
    rw [hcl] at e
    rcases cells_mem (PySem.mem_of_lookup e) with hm | ⟨_, h2, h3⟩
    · exact .inl (cm hm)
    · rw [Heap.size_push] at h2; exact .inr ⟨h2, h3⟩
  have look : ∀ {y}, scope.names.lookup y = some .free → ∃ c, cenv.cells.lookup y = some c ∧ X.env.cells.lookup y = some c := fun {y} hl => by
    have hy : (y, NameKind.free) ∈ scope.names := PySem.mem_of_lookup hl
    obtain ⟨c', e'⟩ := mem_lookup (cells_acc (names := scope.names) (n := (s.heap.push { cls := .type "dict", data := .dict #[] }).objs.size) (cloFrom_has (cells := X.env.cells) (acc := []) hy))
    rw [← hcl] at e'
    refine ⟨c', e', ?_⟩
    rw [hcl] at e'
    rcases cells_mem (PySem.mem_of_lookup e') with hm | ⟨h1, _, _⟩
    · exact (cm hm).1
    · have := ok.uniq _ h1
      rw [hl] at this; cases this
  have okB : (X.blk s H scope cenv fp).Ok := by
    refine ⟨I.ok.mod, by show cenv.scope.kind = _; rw [hsc]; exact ok.kind, by show cenv.globals = _; rw [← hcenv]; exact I.ok.glob, by show cenv.builtins = _; rw [← hcenv]; exact I.ok.blt, by show s.heap.objs.size ≤ cenv.locals; rw [hL]; exact Nat.le_refl _,
      fun y z c e1 e2 => ?_, fun y hy => ?_, fun y c z e => ?_, I.ok.hd, I.ok.frames, .inl rfl, fun b hb => ⟨?_, fun y c e z => ?_⟩, I.bs, Nat.le_trans I.ok.bsz I.sz, fun b o e hb => ?_, fun b hb z => ?_, I.stack, I.stkFree⟩
    · have e1 : cenv.cells.lookup y = some c := e1
      have e2 : cenv.cells.lookup z = some c := e2
      rw [hcl] at e1 e2
      refine cells_inj (fun p hp => ?_) (fun y z c a b => I.ok.inj y z c (cm a).1 (cm b).1) (PySem.mem_of_lookup e1) (PySem.mem_of_lookup e2)
      rw [Heap.size_push]
      exact Nat.lt_succ_of_lt (cm (y := p.1) (c := p.2) hp).2
    · show ∃ c, cenv.cells.lookup y = some c
      have key : ∀ k, cenv.kindOf y = some k → (k = .cell ∨ k = .free) → ∃ c, cenv.cells.lookup y = some c := fun k hk hk' => by
        unfold Env.kindOf at hk
        rw [hsc] at hk
        obtain ⟨k', e, r⟩ := lookup_relS hk
        have : k' = .cell ∨ k' = .free := by
          rcases r with rfl | ⟨rfl, _⟩
          · exact hk'
          · exact .inr rfl
        rcases this with rfl | rfl
        · obtain ⟨c, hm⟩ := cells_has (n := (s.heap.push { cls := .type "dict", data := .dict #[] }).objs.size) (acc := cloFrom X.env.cells scope.names []) (PySem.mem_of_lookup e)
          obtain ⟨c', e'⟩ := mem_lookup hm
          exact ⟨c', by rw [hcl]; exact e'⟩
        · obtain ⟨c, h1, _⟩ := look e
          exact ⟨c, h1⟩
      rcases hy with hy | hy
      · exact key _ hy (.inl rfl)
      · exact key _ hy (.inr rfl)
    · have z : (scope.names.lookup y == some NameKind.cell) = true := z
      have z : scope.names.lookup y = some .cell := by simpa using z
      have e : cenv.cells.lookup y = some c := e
      rw [hcl] at e
      rcases cells_mem (PySem.mem_of_lookup e) with hm | ⟨_, h2, _⟩
      · rcases cloFrom_mem hm with hm | ⟨h1, _⟩
        · cases hm
        · have q := ok.uniq _ h1
          rw [z] at q; cases q
      · rw [Heap.size_push] at h2
        exact Nat.le_of_succ_le h2
    · show b ≠ cenv.locals
      rw [hL]; exact Nat.ne_of_lt (hfp b hb).2
    · have e : cenv.cells.lookup y = some c := e
      rcases mem e with ⟨h1, _⟩ | ⟨h1, _⟩
      · exact (hfp b hb).1.2.2.2.2.1 y c h1 z
      · have h2 : s.heap.objs.size + 1 ≤ b := by rw [← z]; exact h1
        exact absurd (Nat.lt_of_lt_of_le (hfp b hb).2 (Nat.le_of_succ_le h2)) (Nat.lt_irrefl _)
    · rcases (hfp b hb).1.2.2.2.1 with z | z
      · exact I.ok.noex b o e z
      · exact absurd (Nat.lt_of_lt_of_le (Heap.lt_size e) (Nat.le_trans I.ok.bsz z)) (Nat.lt_irrefl _)
    · rcases List.mem_cons.mp (I.stkSub b z) with z | z
      · exact (hfp b hb).1.2.1 z
      · exact (hfp b hb).1.2.2.1 z
  refine ⟨okB, rfl, I.bare, Un.kept kp, ⟨fun _ => none, ?_, fun i y av e1 e2 e3 => ?_⟩, fun y c e => ?_, ?_, fun y c e => ?_, fun p hp => ?_, I.hok.kept kp, by rw [wipe_length]; exact I.len⟩
  · show Heap.Ns _ cenv.locals _
    rw [hL]
    exact Heap.Ns.keeps (Heap.Ns.new ..) fun b o e => pushCells_keeps _ _ _ _ e
  · obtain ⟨e2, hne⟩ := wipe_some e2
    have hfr : scope.names.lookup y = some .free ∧ (cenv.kindOf y = some .cell ∨ cenv.kindOf y = some .free) := by
      have key : ∀ k, cenv.scope.names.lookup y = some k → k = .local ∨ k = .cell ∨ k = .free → scope.names.lookup y = some .free ∧ (cenv.kindOf y = some .cell ∨ cenv.kindOf y = some .free) := fun k hk hk' => by
        have hk0 := hk
        rw [hsc] at hk
        obtain ⟨k', e, r⟩ := lookup_relS hk
        have no : ¬ (k' = .local ∨ k' = .cell) := fun hh => by
          rcases ok.own _ (PySem.mem_of_lookup e) hh with e' | e'
          · obtain ⟨p, hp, hpy⟩ := List.mem_map.mp e'
            have e3 := ok.ix p hp
            have : p.1 = y := hpy
            rw [this] at e3
            exact hne (List.mem_map.mpr ⟨p, hp, nodup_ix hN e3 e1⟩)
          · exact e' (List.mem_of_getElem? e1)
        rcases r with rfl | ⟨rfl, rfl⟩
        · rcases hk' with rfl | rfl | rfl
          · exact absurd (.inl rfl) no
          · exact absurd (.inr rfl) no
          · exact ⟨e, .inr hk0⟩
        · exact ⟨e, .inl hk0⟩
      have e3 : Vis cenv.scope y := e3
      rcases e3 with e3 | e3 | e3
      · exact key _ e3 (.inl rfl)
      · exact key _ e3 (.inr (.inl rfl))
      · exact key _ e3 (.inr (.inr rfl))
    obtain ⟨m, hn, hl⟩ := I.loc
    have hvis : Vis X.env.scope y := (ok.free _ (PySem.mem_of_lookup hfr.1) rfl).elim (fun k => .inr (.inl k)) (fun k => .inr (.inr k))
    obtain ⟨w, r, q⟩ := hl i y av e1 e2 hvis
    refine ⟨w, r, .inr ⟨hfr.2, ?_⟩⟩
    obtain ⟨c, h1, h2⟩ := look hfr.1
    rcases q with ⟨k, _⟩ | ⟨_, c', e', z⟩
    · have k : X.env.scope.names.lookup y = some .local := k
      rcases ok.free _ (PySem.mem_of_lookup hfr.1) rfl with k' | k' <;> rw [show X.env.scope.names.lookup y = _ from k'] at k <;> cases k
    · rw [h2] at e'; cases e'
      exact ⟨c, h1, z.keeps kp⟩
  · have e : cenv.cells.lookup y = some c := e
    rcases mem e with ⟨h1, _⟩ | ⟨_, z⟩
    · obtain ⟨w, z⟩ := I.cell y c h1
      exact ⟨w, z.keeps kp⟩
    · exact ⟨_, z⟩
  · show H cenv.locals = none
    rw [hL]; exact I.hok.fresh (Nat.le_refl _)
  · have e : cenv.cells.lookup y = some c := e
    rcases mem e with ⟨h1, _⟩ | ⟨h1, _⟩
    · exact I.freeC y c h1
    · exact I.hok.fresh (Nat.le_of_succ_le h1)
  · exact absurd (show p ∈ ([] : List (Addr × Obj)) ++ [] from hp) (by simp)
theorem app_ok {E : Value → Shared → Prop} {D : Addr} {xs : List V} {y : V} {v : Value} {Q : Value → Shared → Prop} (I : Inv X pins σ H s) (hD : H D = some (.lst xs)) (hz : xs.length < sizeLine) (r : RelV y v)
    (h : ∀ s', Inv X pins σ (upd H D (.lst (xs ++ [y]))) s' → Q .none s') : wpAny (model X.prog X.w) X.A (call (.builtin "list.append") [.ref D, v]) Q E s := by
  obtain ⟨hz', its, n, ri, e⟩ := I.hok D _ hD
  have hl := ri.length
  refine append_at (hsz := by rw [List.size_toArray]; omega) e fun h' sb ho' => ?_
  refine h { s with heap := h' } (I.write (t' := s.toks) (by rw [hD]; trivial) (.inl rfl) (fun b u hb q => (sb.2 b hb).trans q) ⟨_, ho'⟩ ⟨by rw [List.length_append]; exact hz, its ++ [v], n + 1, ri.append (.cons r .nil), ?_⟩)
  rw [ho']
  simp
def PTs (X : Cx) (ifs : List Expr) (t : TT) : Prop :=
  ∀ (pins : List (Addr × Obj)) (s : Shared) (σ : St) (H : Hp) (Q : Bool → Hp → Prop), Inv X pins σ H s → t σ H Q →
    wpAny (model X.prog X.w) X.A (forIn ifs true fun c r => if r = true then do let ok ← isTrue c X.env (eval c X.env); pure (ForInStep.yield ok) else pure (ForInStep.yield r)) (TP X pins σ Q) X.xe s
def tYes : TT := fun _ H Q => Q true H
theorem pts_nil : PTs X [] tYes := fun _ _ _ H _ I h => wpAny_tests_nil ⟨H, I, h⟩
theorem pts_one {c : Expr} {t : TT} (h : PT X c t) : PTs X [c] t := fun pins s σ H Q I hw => wpAny_tests_one (h pins s σ H Q I hw)
end
theorem thnF {α : Type} {t : Sem α} {Q Q' : α → Shared → Prop} {M : Model} {A : Around} {E : Value → Shared → Prop} {s : Shared} (h : wpAny M A t Q (fun _ _ => False) s) (hQ : ∀ a s, Q a s → Q' a s) : wpAny M A t Q' E s := wpAny_mono h hQ fun _ _ z => False.elim z
theorem compLoop_any {prog : Program} {w : World} {A : Around} {R : Result → Shared → Prop} {s : Shared} {elt target iter : Expr} {ifs : List Expr} {scope : Scope} {pos : Pos} {it acc : Value} {env : Env} (I : Nat → Shared → Prop)
    (turn : ∀ n s, I n s → wpAny (model prog w) A (pyNext it) (fun r s₁ => match r with
      | none => R (.ok .next) s₁
      | some v => wpAny (model prog w) A (letOwnedTupleGo target it v) (fun _ s₁' => wpAny (model prog w) A (assign target env v) (fun _ s₂ =>
          wpAny (model prog w) A (forIn ifs true fun c r => if r = true then do let ok ← isTrue c env (eval c env); pure (ForInStep.yield ok) else pure (ForInStep.yield r)) (fun ok s₃ =>
            if ok = true then wpAny (model prog w) A (eval elt env) (fun x s₄ =>
              wpAny (model prog w) A (call (.builtin "list.append") [acc, x]) (fun _ s₅ => ∃ m, m < n ∧ I m s₅) (notedBy (model prog w) A env fun e s' => R (.error e) s') s₄) (notedBy (model prog w) A env fun e s' => R (.error e) s') s₃
            else ∃ m, m < n ∧ I m s₃) (notedBy (model prog w) A env fun e s' => R (.error e) s') s₂) (notedBy (model prog w) A env fun e s' => R (.error e) s') s₁') (notedBy (model prog w) A env fun e s' => R (.error e) s') s₁) (notedBy (model prog w) A env fun e s' => R (.error e) s') s)
    (n : Nat) (h : I n s) :
    codeAny (model prog w) A (.compLoop (.ListComp elt [⟨target, iter, ifs, 0⟩] scope pos) 0 it acc env) R s := by
  refine codeAny_loop rfl I (fun n s hI => ?_) n h
  show wpAny _ A ((compTurn (.ListComp elt [⟨target, iter, ifs, 0⟩] scope pos) 0 it acc env).onRaise (fun x => do noteFrame x env; theTreesLotGoes x)) _ _ s
  refine wpAny_noted ?_
  rw [compTurn_list]
  refine wpAny_bind (wpAny_standAt (wpAny_bind (wpAny_mono (turn n s hI) (fun r s₁ h₁ => ?_) fun _ _ h' => h')))
  cases r with
  | none => exact wpAny_pure h₁
  | some v =>
    refine wpAny_bind (wpAny_mono h₁ (fun _ s₁' h₁' => ?_) fun _ _ h' => h')
    refine wpAny_bind (wpAny_mono h₁' (fun _ s₂ h₂ => wpAny_bind (wpAny_mono h₂ (fun ok s₃ h₃ => ?_) fun _ _ h' => h')) fun _ _ h' => h')
    cases ok with
    | false => exact wpAny_pure ⟨rfl, h₃⟩
    | true =>
      exact wpAny_bind (wpAny_bind (wpAny_mono h₃ (fun x s₄ h₄ => wpAny_bind (wpAny_mono h₄ (fun _ s₅ h₅ => wpAny_pure (wpAny_pure ⟨rfl, h₅⟩)) fun _ _ h' => h')) fun _ _ h' => h'))
section
variable {X : Cx}
def tLc (wi : TI) (g : TG) (tt : TT) (te : TE) (vs : List Nat) : TE := fun σ H Q => wi σ H fun J H1 => ∀ D, H1 D = none → ∃ W : Nat → Nat → Hp → Prop, (∃ m, W 0 m (upd H1 D (.lst []))) ∧ ∀ i m H, W i m H →
  (J.stop i H ∧ Q (.ref D) H) ∨ (J.go i H ∧ ∃ Nx : Hp → Prop, (∀ H', Nx H' → ∃ m', m' < m ∧ W (i + 1) m' H') ∧ ∀ x H', J.yld i H x H' → g x (wipe σ vs) H' fun σ2 H2 => wipe σ2 vs = wipe σ vs ∧ tt σ2 H2 fun b H3 =>
    if b = true then te σ2 H3 fun y H4 => ∃ acc, H4 D = some (.lst acc) ∧ acc.length < sizeLine ∧ Nx (upd H4 D (.lst (acc ++ [y]))) else Nx H3)
theorem lc_core {pins : List (Addr × Obj)} {s : Shared} {σ : St} {H : Hp} {Q : VK} {elt tg iter : Expr} {ifs : List Expr} {scope : Scope} {own : List (Str × Nat)} {pos pos' : Pos} {wi : TI} {g : TG} {tt : TT} {te : TE} {use : Option (Value → Sem Unit)} {Qf : Value → Shared → Prop}
    (hc : X.calm = true) (hN : X.N.Nodup) (I : Inv X pins σ H s) (hi : PI X tg iter wi) (ok : BlkOk X.N X.env.scope scope own)
    (hg : ∀ (s : Shared) (H : Hp) (C : Addr) (cl : List (Str × Addr)) (fp : List Addr), PG (X.blk s H scope (compEnvC scope cl C X.env) fp) tg g) (ht : ∀ (s : Shared) (H : Hp) (C : Addr) (cl : List (Str × Addr)) (fp : List Addr), PTs (X.blk s H scope (compEnvC scope cl C X.env) fp) ifs tt)
    (he : ∀ (s : Shared) (H : Hp) (C : Addr) (cl : List (Str × Addr)) (fp : List Addr), PE (X.blk s H scope (compEnvC scope cl C X.env) fp) elt te) (hs : ∀ x, foldedSetIterable iter X.env x = pure x)
    (h : tLc wi g tt te (own.map (·.2)) σ H Q)
    (hRR : ∀ D C s' m H', Inv X pins σ H' s' → Q (.ref D) H' → s'.heap.Ns C m → FpOk X pins H' C → compPost (model X.prog X.w) X.A X.xe use Qf (.ref D) C (.ok .next) s') :
    wpAny (model X.prog X.w) X.A (comprehension (.ListComp elt [⟨tg, iter, ifs, 0⟩] scope pos) scope X.env pos' (newList []) false (eval iter X.env) use) Qf X.xe s := by
  have hfree : ∀ y ∈ scope.names, y.2 = .free → ∃ c, X.env.cells.lookup y.1 = some c := fun y hy e => by
    rcases ok.free y hy e with k | k
    · exact I.ok.has _ (.inl k)
    · exact I.ok.has _ (.inr k)
  refine wpAny_comprehension_free (use := use) rfl hs (closure_ok hfree) ok.kind (fun y hy e => by rw [ok.uniq y hy, e])
    (thn (hi pins s σ H _ I h) fun xv s1 hx => thn hx fun itv s2 h2 => ?_)
  obtain ⟨it, fp, tn, J, H2, e, I2, T, st2, f2, q⟩ := h2
  subst e
  refine wpAny_newObj_type (newEnv_comp ?_) (by show 0 ≤ sizeLine; decide)
  generalize hD : s2.heap.objs.size = D
  have hDn : H2 D = none := I2.hok.fresh (Nat.le_of_eq hD)
  obtain ⟨W, ⟨m0, w0⟩, turn⟩ := q D hDn
  generalize hs3 : ({ s2 with heap := s2.heap.push { cls := .type "list", data := .seq ([] : List Value).toArray } } : Shared) = s3
  have I3 : Inv X pins σ (upd H2 D (.lst [])) s3 := by
    rw [← hs3]
    refine I2.laid (t' := s2.toks) (fun b o e => Heap.get?_push_of_some _ e) (Nat.le_of_eq hD) ⟨Nat.zero_le _, [], 0, .nil, ?_⟩
    rw [← hD]
    exact Heap.get?_push_size _ rfl
  have h3 : s3.heap = s2.heap.push { cls := .type "list", data := .seq ([] : List Value).toArray } := by rw [← hs3]
  have sz : ∀ b ∈ fp, b < s2.heap.objs.size := fun b hb => by
    obtain ⟨o, e, _⟩ := T.obj _ _ st2 b hb
    exact Heap.lt_size e
  have f3 : ∀ b ∈ fp, FpOk X pins (upd H2 D (.lst [])) b ∧ b < s3.heap.objs.size := fun b hb => by
    have hlt := sz b hb
    refine ⟨⟨?_, (f2 b hb).2⟩, by rw [h3, Heap.size_push]; exact Nat.lt_succ_of_lt hlt⟩
    rw [upd_ne (by rw [← hD]; exact Nat.ne_of_lt hlt)]
    exact (f2 b hb).1
  have st3 : tn 0 s3.heap := T.keep _ _ _ st2 fun b _ o e => by rw [h3]; exact Heap.get?_push_of_some _ e
  have I4 := block_start I3 ok hN f3
  have pg := hg s3 (upd H2 D (.lst [])) s3.heap.objs.size (cellsFrom (s3.heap.objs.size + 1) scope.names (cloFrom X.env.cells scope.names [])) fp
  have pt := ht s3 (upd H2 D (.lst [])) s3.heap.objs.size (cellsFrom (s3.heap.objs.size + 1) scope.names (cloFrom X.env.cells scope.names [])) fp
  have pe := he s3 (upd H2 D (.lst [])) s3.heap.objs.size (cellsFrom (s3.heap.objs.size + 1) scope.names (cloFrom X.env.cells scope.names [])) fp
  show codeAny _ _ (.compStart (.ListComp elt [⟨tg, iter, ifs, 0⟩] scope pos) 0 (.ref it) (.ref D) (compEnvC scope (cellsFrom (s3.heap.objs.size + 1) scope.names (cloFrom X.env.cells scope.names [])) s3.heap.objs.size X.env)) (compPost (model X.prog X.w) X.A X.xe use Qf (.ref D) s3.heap.objs.size) { s3 with heap := pushCells (s3.heap.push { cls := .type "dict", data := .dict #[] }) scope.names }
  have nfp : ∀ b ∈ fp, (upd H2 D (.lst [])) b = none := fun b hb => (f3 b hb).1.1
  generalize hce : compEnvC scope (cellsFrom (s3.heap.objs.size + 1) scope.names (cloFrom X.env.cells scope.names [])) s3.heap.objs.size X.env = ce at I4 pg pt pe ⊢
  have cL : ce.locals = s3.heap.objs.size := by subst hce; rfl
  generalize hH3 : upd H2 D (.lst []) = H3 at I3 I4 pg pt pe w0 nfp f3
  generalize hs4 : ({ s3 with heap := pushCells (s3.heap.push { cls := .type "dict", data := .dict #[] }) scope.names } : Shared) = s4 at I4 ⊢
  have st4 : tn 0 s4.heap := T.keep _ _ _ st3 fun b _ o e => by rw [← hs4]; exact pushCells_keeps _ _ _ _ (Heap.get?_push_of_some _ e)
  have stat : ∀ {σ' : St} {H' : Hp} {s' : Shared}, Inv (X.blk s3 H3 scope ce fp) [] σ' H' s' → (∀ b ∈ fp, H' b = none) → ∀ b ∈ fp, FpOk (X.blk s3 H3 scope ce fp) [] H' b := fun {σ' H' s'} I' hn b hb =>
    ⟨hn b hb, (I'.ok.exf b hb).1, I'.ok.exfs b hb, .inl hb, fun x c e => (I'.ok.exf b hb).2 x c e, fun p hp => absurd (show p ∈ ([] : List (Addr × Obj)) ++ [] from hp) (by simp)⟩
  have loop : codeAny (model X.prog X.w) X.A (.compLoop (.ListComp elt [⟨tg, iter, ifs, 0⟩] scope pos) 0 (.ref it) (.ref D) ce) (compPost (model X.prog X.w) X.A X.xe use Qf (.ref D) s3.heap.objs.size) s4 := by
    refine compLoop_any (fun n s' => ∃ i H', Inv (X.blk s3 H3 scope ce fp) [] (wipe σ (own.map (·.2))) H' s' ∧ tn i s'.heap ∧ (∀ b ∈ fp, H' b = none) ∧ W i n H') ?_ m0 ⟨0, H3, I4, st4, nfp, w0⟩
    rintro n s5 ⟨i, H5, I5, st5, n5, w5⟩
    rcases turn i n H5 w5 with ⟨stop, qq⟩ | ⟨go, Nx, hNx, step⟩
    · have td := T.done (X.blk s3 H3 scope ce fp) rfl rfl rfl hc i [] s5 _ H5 (fun _ _ => False) I5 (stat I5 n5) st5 stop
      refine thnF td fun r s6 ⟨hr, I6⟩ => ?_
      subst hr
      have I7 : Inv X pins σ H5 s6 := I3.call' (ch := fp) I6.os I6.base I6.hok I6.bare fun b hb => ⟨(f3 b hb).1.2.2.2.1, (f3 b hb).1.2.1, (f3 b hb).1.2.2.2.2.1, (f3 b hb).1.2.2.2.2.2⟩
      have nC : H5 s3.heap.objs.size = none := by
        have z : H5 ce.locals = none := I6.free
        rw [cL] at z
        exact z
      obtain ⟨m, hn, _⟩ := I6.loc
      have hn : s6.heap.Ns ce.locals m := hn
      rw [cL] at hn
      exact hRR D s3.heap.objs.size s6 m H5 I7 qq hn (I3.fpOk (Nat.le_refl _) nC)
    · have ti := T.item (X.blk s3 H3 scope ce fp) rfl rfl rfl hc i [] s5 _ H5 (fun _ _ => False) I5 (stat I5 n5) st5 go
      refine thnF ti fun r s6 ⟨u, hr, h6⟩ => ?_
      subst hr
      refine thnF h6 fun _ s7 ⟨x, H7, I7, r7, y7, st7, n7⟩ => ?_
      have I7' := I7.pinned (stat I7 n7) (T.obj _ _ st7)
      refine thnF (pg _ s7 _ H7 x u _ I7' r7 (step x H7 y7)) fun _ s8 ⟨σ8, H8, I8, hw8, q8⟩ => ?_
      refine thnF (pt _ s8 σ8 H8 _ I8 q8) fun b s9 ⟨H9, I9, q9⟩ => ?_
      have fin : ∀ {s' : Shared} {H' : Hp}, Inv (X.blk s3 H3 scope ce fp) ([] ++ pinsAt fp s7.heap) σ8 H' s' → Nx H' → ∃ m, m < n ∧ ∃ i H', Inv (X.blk s3 H3 scope ce fp) [] (wipe σ (own.map (·.2))) H' s' ∧ tn i s'.heap ∧ (∀ b ∈ fp, H' b = none) ∧ W i m H' := fun {s' H'} I' nx => by
        obtain ⟨m', hm, w'⟩ := hNx H' nx
        have pin' : ∀ b ∈ fp, ∀ o, s7.heap.get? b = some o → s'.heap.get? b = some o ∧ H' b = none := fun b hb o e =>
          let z := I'.pin (b, o) (List.mem_append_right _ (List.mem_append_right _ (mem_pinsAt hb e)))
          ⟨z.1, z.2.1⟩
        have hl : (wipe σ (own.map (·.2))).length = σ8.length := by rw [← hw8, wipe_length]
        refine ⟨m', hm, i + 1, H', (I'.unpinned (pins := [])).weak hl (fun j v e => ?_), T.keep _ _ _ st7 fun b hb o e => (pin' b hb o e).1, fun b hb => ?_, w'⟩
        · rw [← hw8] at e
          exact (wipe_some e).1
        · obtain ⟨o, e, _⟩ := T.obj _ _ st7 b hb
          exact (pin' b hb o e).2
      cases b with
      | false =>
        simp only [Bool.false_eq_true, if_false] at q9 ⊢
        exact fin I9 q9
      | true =>
        simp only [if_true] at q9 ⊢
        refine thnF (pe _ s9 σ8 H9 _ I9 q9) fun z s10 ⟨yv, H10, I10, r10, acc, hD10, hz10, nx⟩ => ?_
        exact app_ok (X := X.blk s3 H3 scope ce fp) I10 hD10 hz10 r10 fun s11 I11 => fin I11 nx
  exact codeAny_compStart_list loop (T.self X.A 0 _ _ _ st4 loop)
theorem pe_lc {elt tg iter : Expr} {ifs : List Expr} {scope : Scope} {own : List (Str × Nat)} {pos : Pos} {wi : TI} {g : TG} {tt : TT} {te : TE} (hc : X.calm = true) (hN : X.N.Nodup) (hi : PI X tg iter wi) (ok : BlkOk X.N X.env.scope scope own)
    (hg : ∀ (s : Shared) (H : Hp) (C : Addr) (cl : List (Str × Addr)) (fp : List Addr), PG (X.blk s H scope (compEnvC scope cl C X.env) fp) tg g) (ht : ∀ (s : Shared) (H : Hp) (C : Addr) (cl : List (Str × Addr)) (fp : List Addr), PTs (X.blk s H scope (compEnvC scope cl C X.env) fp) ifs tt)
    (he : ∀ (s : Shared) (H : Hp) (C : Addr) (cl : List (Str × Addr)) (fp : List Addr), PE (X.blk s H scope (compEnvC scope cl C X.env) fp) elt te) (hs : ∀ x, foldedSetIterable iter X.env x = pure x := by intro _; rfl) :
    PE X (.ListComp elt [⟨tg, iter, ifs, 0⟩] scope pos) (tLc wi g tt te (own.map (·.2))) := by
  intro pins s σ H Q I h
  rw [eval_ListComp]
  refine lc_core hc hN I hi ok hg ht he hs h fun D C s' m H' I' q hn f => ⟨m, hn, fun h'' sb => ?_⟩
  obtain ⟨f0, f1, f2, f3, f4, f5⟩ := f
  exact ⟨.ref D, H', I'.turned (t' := s'.toks) (fun b o hb e => (sb.2 b hb).trans e) f0 f1 f3 f4 f5, rfl, q⟩
theorem ps_setLc {i : Nat} {y : Str} {py : Pos} {elt tg iter : Expr} {ifs : List Expr} {scope : Scope} {own : List (Str × Nat)} {pos spos : Pos} {wi : TI} {g : TG} {tt : TT} {te : TE} (hc : X.calm = true) (hN : X.N.Nodup) (hy : X.N[i]? = some y) (hyl : X.env.scope.names.lookup y = some .local)
    (hsw : swapsWith (.ListComp elt [⟨tg, iter, ifs, 0⟩] scope pos) (some (.Name y py)) spos.line X.env = pure true) (hi : PI X tg iter wi) (ok : BlkOk X.N X.env.scope scope own)
    (hg : ∀ (s : Shared) (H : Hp) (C : Addr) (cl : List (Str × Addr)) (fp : List Addr), PG (X.blk s H scope (compEnvC scope cl C X.env) fp) tg g) (ht : ∀ (s : Shared) (H : Hp) (C : Addr) (cl : List (Str × Addr)) (fp : List Addr), PTs (X.blk s H scope (compEnvC scope cl C X.env) fp) ifs tt)
    (he : ∀ (s : Shared) (H : Hp) (C : Addr) (cl : List (Str × Addr)) (fp : List Addr), PE (X.blk s H scope (compEnvC scope cl C X.env) fp) elt te) (hs : ∀ x, foldedSetIterable iter X.env x = pure x := by intro _; rfl) :
    PS X (.Assign [.Name y py] (.ListComp elt [⟨tg, iter, ifs, 0⟩] scope pos) spos) (tAsg (tLc wi g tt te (own.map (·.2))) (gName i)) := by
  intro pins s σ H D I h
  rw [exec_Assign_Name_used _ _ _ _ hsw]
  refine wpAny_bind (wpAny_standAt (wpAny_bind ?_))
  show wpAny _ X.A (do let _ ← comprehension (.ListComp elt [⟨tg, iter, ifs, 0⟩] scope pos) scope X.env (firstIterPos [⟨tg, iter, ifs, 0⟩] pos) (newList []) false (eval iter X.env) (some (assign (.Name y py) X.env))) _ _ s
  have h : tLc wi g tt te (own.map (·.2)) σ H (fun x H1 => gName i x σ H1 D.nx) := h
  refine wpAny_bind (thn (lc_core (Qf := fun _ s' => SP X pins D .next s') hc hN I hi ok hg ht he hs h fun L C s' m H' I' q hn f => ?_) fun _ s' hq => wpAny_pure (wpAny_pure hq))
  show wpAny _ _ (assign (.Name y py) X.env (.ref L)) _ _ _
  refine wpAny_assign_Name (store_ok2 (v := V.ref L) I' hN hy (.inl hyl) rfl (fun s2 I2 ⟨a, sb, ha⟩ => ?_) (.inr hyl))
  obtain ⟨f0, f1, f2, f3, f4, f5⟩ := f
  have haC : C ≠ a := by
    rcases ha with z | z
    · rw [z]; exact f1
    · exact fun e => f4 y a z e.symm
  refine ⟨m, hn.sameBut sb haC, fun h3 sb3 => ?_⟩
  exact ⟨_, H', I2.turned (t' := s2.toks) (fun b o hb e => (sb3.2 b hb).trans e) f0 f1 f3 f4 f5, q⟩
theorem sw_true {elt : Expr} {gs : List Comprehension} {scope : Scope} {pos py : Pos} {y : Str} {l : Nat} {env : Env} (hk : env.scope.kind = .function) (hy : env.scope.names.lookup y = some .local) (hl : (py.line == pos.line) = true)
    (ha : (scope.names.any fun (n, k) => n == y && (k == .local || k == .cell)) = false) : swapsWith (.ListComp elt gs scope pos) (some (.Name y py)) l env = pure true := by
  have ky : env.kindOf y = some .local := hy
  have hb : env.blockKind = .function := by unfold Env.blockKind; rw [hk]; rfl
  unfold swapsWith
  simp only [hb, ky, ha, Expr.pos, hl]
  rfl
end
theorem lc_range {lo : Int} {n : Nat} {g : TG} {tt : TT} {te : TE} {vs : List Nat} {σ : St} {H1 : Hp} {D : Addr} {Qd : Hp → Prop} (Pv : Nat → Hp → Prop) (h0 : Pv 0 (upd H1 D (.lst [])))
    (hs : ∀ i H, i < n → Pv i H → g (.int (lo + i)) (wipe σ vs) H fun σ2 H2 => wipe σ2 vs = wipe σ vs ∧ tt σ2 H2 fun b H3 =>
      if b = true then te σ2 H3 fun y H4 => ∃ acc, H4 D = some (.lst acc) ∧ acc.length < sizeLine ∧ Pv (i + 1) (upd H4 D (.lst (acc ++ [y]))) else Pv (i + 1) H3) (hd : ∀ H, Pv n H → Qd H) :
    ∃ W : Nat → Nat → Hp → Prop, (∃ m, W 0 m (upd H1 D (.lst []))) ∧ ∀ i m H, W i m H →
      ((Itr lo n).stop i H ∧ Qd H) ∨ ((Itr lo n).go i H ∧ ∃ Nx : Hp → Prop, (∀ H', Nx H' → ∃ m', m' < m ∧ W (i + 1) m' H') ∧ ∀ x H', (Itr lo n).yld i H x H' → g x (wipe σ vs) H' fun σ2 H2 => wipe σ2 vs = wipe σ vs ∧ tt σ2 H2 fun b H3 =>
        if b = true then te σ2 H3 fun y H4 => ∃ acc, H4 D = some (.lst acc) ∧ acc.length < sizeLine ∧ Nx (upd H4 D (.lst (acc ++ [y]))) else Nx H3) := by
  refine ⟨fun i m H => m = n - i ∧ i ≤ n ∧ Pv i H, ⟨n, by simp, Nat.zero_le _, h0⟩, ?_⟩
  rintro i m H ⟨rfl, hi, p⟩
  by_cases hlt : i < n
  · refine .inr ⟨hlt, Pv (i + 1), fun H' p' => ⟨n - (i + 1), by omega, rfl, hlt, p'⟩, fun x H' y => ?_⟩
    obtain ⟨e, y⟩ := y
    subst e y
    exact hs i _ hlt p
  · have e : i = n := by omega
    subst e
    exact .inl ⟨Nat.le_refl _, hd H p⟩
theorem lc_list {K : PySem.W.Frag} {a : Addr} {xs : List V} {g : TG} {tt : TT} {te : TE} {vs : List Nat} {σ : St} {H1 : Hp} {D : Addr} {Qd : Hp → Prop} (Pv : Nat → Hp → Prop) (h0 : Pv 0 (upd H1 D (.lst []))) (hl : ∀ i H, i ≤ xs.length → Pv i H → SqL K H a xs)
    (hs : ∀ i x H, xs[i]? = some x → Pv i H → g x (wipe σ vs) H fun σ2 H2 => wipe σ2 vs = wipe σ vs ∧ tt σ2 H2 fun b H3 =>
      if b = true then te σ2 H3 fun y H4 => ∃ acc, H4 D = some (.lst acc) ∧ acc.length < sizeLine ∧ Pv (i + 1) (upd H4 D (.lst (acc ++ [y]))) else Pv (i + 1) H3) (hd : ∀ H, Pv xs.length H → Qd H) :
    ∃ W : Nat → Nat → Hp → Prop, (∃ m, W 0 m (upd H1 D (.lst []))) ∧ ∀ i m H, W i m H →
      ((Itl K a).stop i H ∧ Qd H) ∨ ((Itl K a).go i H ∧ ∃ Nx : Hp → Prop, (∀ H', Nx H' → ∃ m', m' < m ∧ W (i + 1) m' H') ∧ ∀ x H', (Itl K a).yld i H x H' → g x (wipe σ vs) H' fun σ2 H2 => wipe σ2 vs = wipe σ vs ∧ tt σ2 H2 fun b H3 =>
        if b = true then te σ2 H3 fun y H4 => ∃ acc, H4 D = some (.lst acc) ∧ acc.length < sizeLine ∧ Nx (upd H4 D (.lst (acc ++ [y]))) else Nx H3) := by
  refine ⟨fun i m H => m = xs.length - i ∧ i ≤ xs.length ∧ Pv i H, ⟨xs.length, by simp, Nat.zero_le _, h0⟩, ?_⟩
  rintro i m H ⟨rfl, hi, p⟩
  have q := hl i H hi p
  by_cases hlt : i < xs.length
  · refine .inr ⟨⟨xs, xs[i], q, by simp [hlt]⟩, Pv (i + 1), fun H' p' => ⟨xs.length - (i + 1), by omega, rfl, hlt, p'⟩, fun x H' y => ?_⟩
    obtain ⟨e, y⟩ := y
    subst e
    exact hs i x _ (y xs q) p
  · have e : i = xs.length := by omega
    subst e
    exact .inl ⟨⟨xs, q, Nat.le_refl _⟩, hd H p⟩
def blkC (N : List Str) (sc scope : Scope) (own : List (Str × Nat)) : Bool :=
  (match scope.kind with | .function => true | _ => false) && (scope.names.all fun y => decide (scope.names.lookup y.1 = some y.2)) && (own.all fun p => decide (N[p.2]? = some p.1)) &&
    (scope.names.all fun y => match y.2 with
      | .free => (match sc.names.lookup y.1 with | some .cell => true | some .free => true | _ => false)
      | .local => decide (y.1 ∈ own.map (·.1)) || decide (y.1 ∉ N)
      | .cell => decide (y.1 ∈ own.map (·.1)) || decide (y.1 ∉ N)
      | _ => true)
theorem blkOk_by {N : List Str} {sc scope : Scope} {own : List (Str × Nat)} (h : blkC N sc scope own = true) : BlkOk N sc scope own := by
  unfold blkC at h
  simp only [Bool.and_eq_true, List.all_eq_true, decide_eq_true_eq] at h
  obtain ⟨⟨⟨h1, h2⟩, h3⟩, h4⟩ := h
  refine ⟨?_, h2, h3, fun y hy e => ?_, fun y hy e => ?_⟩
  · split at h1
    · assumption
    · cases h1
  · have q := h4 y hy
    simp only [e] at q
    split at q <;> first | exact .inl (by assumption) | exact .inr (by assumption) | cases q
  · have q := h4 y hy
    rcases e with e | e <;> (simp only [e, Bool.or_eq_true, decide_eq_true_eq] at q; exact q)
end L2
namespace L2
open PySem PySem.Spec PyProof.Rows
section
variable {prog : Program} {w : World} {A : Around} {R : Result → Shared → Prop} {s : Shared} {elt t0 i0 t1 i1 : Expr} {ifs0 ifs1 : List Expr} {scope : Scope} {pos : Pos} {it acc : Value} {env : Env}
end
section
variable {X : Cx}
end
end L2
namespace L2
open PySem PySem.Spec PyProof.Rows
section
variable {κ : Type} [DecidableEq κ]
def valV (kvs : List (κ × V)) (k : κ) : Option V := (kvs.find? fun kv => decide (kv.1 = k)).map (·.2)
def putK (kvs : List (κ × V)) (k : κ) (v : V) : List (κ × V) :=
  if (kvs.any fun kv => decide (kv.1 = k)) = true then kvs.map (fun kv => if kv.1 = k then (kv.1, v) else kv) else kvs ++ [(k, v)]
def dropK (kvs : List (κ × V)) (k : κ) : List (κ × V) := kvs.filter fun kv => decide (kv.1 ≠ k)
theorem valV_pos {p : κ × V} {r : List (κ × V)} {k : κ} (e : p.1 = k) : valV (p :: r) k = some p.2 := by simp [valV, List.find?_cons, e]
theorem valV_neg {p : κ × V} {r : List (κ × V)} {k : κ} (e : ¬ p.1 = k) : valV (p :: r) k = valV r k := by simp [valV, List.find?_cons, e]
theorem RelO.getD {o : Option V} {u : Option Value} {d : V} {d' : Value} (r : RelO o u) (rd : RelV d d') : RelV (o.getD d) (u.getD d') := by
  cases o with
  | none => cases u with
    | none => exact rd
    | some _ => exact (show False from r).elim
  | some _ => cases u with
    | none => exact (show False from r).elim
    | some _ => exact r
theorem KV.val {kvs : List (κ × V)} {vs : List (κ × Value)} (r : KV kvs vs) (k : κ) : RelO (valV kvs k) (valueAt vs k) := by
  unfold KV at r
  induction r with
  | nil => exact True.intro
  | @cons p q ps qs h t ih =>
    obtain ⟨h1, h2⟩ := h
    by_cases e : p.1 = k
    · have e' : q.1 = k := h1.symm.trans e
      have b : valueAt (q :: qs) k = some q.2 := by simp [valueAt, List.find?_cons, e']
      rw [valV_pos e, b]; exact h2
    · have e' : ¬ q.1 = k := fun z => e (h1.trans z)
      have b : valueAt (q :: qs) k = valueAt qs k := by simp [valueAt, List.find?_cons, e']
      rw [valV_neg e, b]; exact ih
theorem KV.any {kvs : List (κ × V)} {vs : List (κ × Value)} (r : KV kvs vs) (k : κ) : (kvs.any fun kv => decide (kv.1 = k)) = vs.any fun kv => decide (kv.1 = k) := by
  unfold KV at r
  induction r with
  | nil => rfl
  | cons h t ih => rw [List.any_cons, List.any_cons, ih, h.1]
theorem KV.drop {kvs : List (κ × V)} {vs : List (κ × Value)} (r : KV kvs vs) (k : κ) : KV (dropK kvs k) (without vs k) := by
  unfold KV at r ⊢
  unfold dropK without
  induction r with
  | nil => exact .nil
  | @cons p q ps qs h t ih =>
    obtain ⟨h1, h2⟩ := h
    rw [List.filter_cons, List.filter_cons]
    by_cases e : p.1 = k
    · have a : ¬ decide (p.1 ≠ k) = true := by simp [e]
      have b : ¬ decide (q.1 ≠ k) = true := by simp [h1.symm.trans e]
      rw [if_neg a, if_neg b]; exact ih
    · have e' : ¬ q.1 = k := fun z => e (h1.trans z)
      have a : decide (p.1 ≠ k) = true := by simp [e]
      have b : decide (q.1 ≠ k) = true := by simp [e']
      rw [if_pos a, if_pos b]; exact .cons ⟨h1, h2⟩ ih
theorem KV.length {kvs : List (κ × V)} {vs : List (κ × Value)} (r : KV kvs vs) : kvs.length = vs.length := Paired.length r
end
abbrev KT (H : Hp) : List (List Key × V) → List (List Key × Addr × Value) → Prop := Paired fun p q => p.1 = q.1 ∧ H q.2.1 = some (.tup (p.1.map kV)) ∧ RelV p.2 q.2.2
theorem KT.val {H : Hp} {kvs : List (List Key × V)} {xs : List (List Key × Addr × Value)} (r : KT H kvs xs) (k : List Key) : RelO (valV kvs k) ((atKey xs k).map (·.2)) := by
  induction r with
  | nil => exact True.intro
  | @cons p q ps qs h t ih =>
    obtain ⟨h1, _, h2⟩ := h
    by_cases e : p.1 = k
    · have e' : q.1 = k := h1.symm.trans e
      have b : atKey (q :: qs) k = some q.2 := by simp [atKey, List.find?_cons, e']
      rw [valV_pos e, b]; exact h2
    · have e' : ¬ q.1 = k := fun z => e (h1.trans z)
      have b : atKey (q :: qs) k = atKey qs k := by simp [atKey, List.find?_cons, e']
      rw [valV_neg e, b]; exact ih
theorem KT.keeps {H H' : Hp} {kvs : List (List Key × V)} {xs : List (List Key × Addr × Value)} (r : KT H kvs xs) (ht : ∀ b ys, H b = some (.tup ys) → H' b = some (.tup ys)) : KT H' kvs xs :=
  Paired.mapP r fun _ _ z => ⟨z.1, ht _ _ z.2.1, z.2.2⟩
section
variable {P : Program} {w : World} {H : Hp} {h : Heap} {a : Addr}
end
def DGet (H : Hp) (a : Addr) (y : V) (r : Option V) : Prop :=
  (∃ kvs k, Rd H a (.dK kvs) ∧ y = kV k ∧ r = valV kvs k) ∨ ∃ kvs k b, Rd H a (.dT kvs) ∧ y = .ref b ∧ H b = some (.tup (k.map kV)) ∧ r = valV kvs k
def DPut (H : Hp) (a : Addr) (y v : V) (H' : Hp) : Prop :=
  (∃ kvs k, H a = some (.dK kvs) ∧ y = kV k ∧ kvs.length < sizeLine ∧ H' = upd H a (.dK (putK kvs k v))) ∨
  ∃ kvs k b, H a = some (.dT kvs) ∧ y = .ref b ∧ H b = some (.tup (k.map kV)) ∧ kvs.length < sizeLine ∧ H' = upd H a (.dT (putK kvs k v))
theorem DGet.k {H : Hp} {a : Addr} {kvs : List (Key × V)} {k : Key} (e : H a = some (.dK kvs)) : DGet H a (kV k) (valV kvs k) := .inl ⟨kvs, k, .inl e, rfl, rfl⟩
theorem DGet.t {H : Hp} {a b : Addr} {kvs : List (List Key × V)} {k : List Key} (e : H a = some (.dT kvs)) (eb : H b = some (.tup (k.map kV))) : DGet H a (.ref b) (valV kvs k) := .inr ⟨kvs, k, b, .inl e, rfl, eb, rfl⟩
theorem DPut.k {H : Hp} {a : Addr} {kvs : List (Key × V)} {k : Key} {v : V} (e : H a = some (.dK kvs)) (hl : kvs.length < sizeLine) : DPut H a (kV k) v (upd H a (.dK (putK kvs k v))) := .inl ⟨kvs, k, e, rfl, hl, rfl⟩
theorem DPut.t {H : Hp} {a b : Addr} {kvs : List (List Key × V)} {k : List Key} {v : V} (e : H a = some (.dT kvs)) (eb : H b = some (.tup (k.map kV))) (hl : kvs.length < sizeLine) :
    DPut H a (.ref b) v (upd H a (.dT (putK kvs k v))) := .inr ⟨kvs, k, b, e, rfl, eb, hl, rfl⟩
section
variable {X : Cx} {pins : List (Addr × Obj)} {σ : St} {H : Hp} {s : Shared} {a : Addr} {y v : V} {u r : Value} {o : Option V} {A : Around} {E : Value → Shared → Prop}
end
section
variable {X : Cx} {pins : List (Addr × Obj)} {σ : St} {H : Hp} {s : Shared} {a : Addr} {kvs : List (Key × V)} {k : Key} {u : Value} {A : Around} {E : Value → Shared → Prop}
end
section
variable {X : Cx} {o i e value : Expr} {pos pos' tpos : Pos} {td ty tv : TE}
end
section
variable {X : Cx} {pos : Pos}
end
section
variable {X : Cx} {pins : List (Addr × Obj)} {σ : St} {H : Hp} {s : Shared} {a : Addr} {y d : V} {u r : Value} {o : Option V} {A : Around} {E : Value → Shared → Prop}
end
section
variable {X : Cx} {o e f : Expr} {apos cpos : Pos} {td ty tx : TE}
end
section
variable {X : Cx} {pins : List (Addr × Obj)} {σ : St} {H : Hp} {s : Shared} {a : Addr} {kvs : List (Key × V)} {A : Around} {E : Value → Shared → Prop}
end
section
variable {X : Cx} {pins : List (Addr × Obj)} {σ : St} {H : Hp} {s : Shared} {a : Addr} {y : V} {u : Value} {A : Around} {E : Value → Shared → Prop}
end
end L2
namespace L2
open PySem PySem.Spec PyProof.Rows
section
variable {prog : Program} {w : World} {A : Around} {E : Value → Shared → Prop}
end
section
variable {X : Cx}
end
end L2
namespace L2
open PySem PySem.Spec PyProof.Rows
section
variable {X : Cx} {pins : List (Addr × Obj)} {σ : St} {H : Hp} {s : Shared} {h' : Heap}
end
section
variable {X : Cx}
end
def RgC (i j c : Int) (n : Nat) : Prop := c ≠ 0 ∧ c.natAbs < 1073741824 ∧ Builtin.Range.small i j c = true ∧ Builtin.Range.rangeSize i j c = n
theorem RgC.neg {i j : Int} (ha : -(2 ^ 62) ≤ i) (ha' : i < 2 ^ 62) (hb : -(2 ^ 62) ≤ j) (hb' : j < 2 ^ 62) : RgC i j (-1) (i - j).toNat :=
  ⟨by decide, by decide, PySem.W.small_down ha ha' hb hb', PySem.W.rangeSize_downNat i j⟩
section
variable {X : Cx} {tg : Expr}
end
section
variable {X : Cx} {tg : Expr}
end
section
variable {prog : Program} {w : World} {A : Around} {E : Value → Shared → Prop} {s : Shared}
end
section
variable {X : Cx} {pins : List (Addr × Obj)} {σ : St} {H : Hp} {s : Shared} {d : Addr} {o : Obj}
end
section
variable {P : Program} {w : World} {K : PySem.W.Frag} {tg : Expr} {d : Addr} {o : Obj} {es : Array DictEntry} {ep : Nat}
end
section
variable {X : Cx} {tg e : Expr} {td : TE} {apos cpos : Pos}
end
end L2
section 
namespace Bits
open PySem PyProof.Rows
end Bits
end 
section 
namespace TL
open PySem PySem.Builtin PySem.Builtin.Str PySem.StrLaws
abbrev tl (x : Str) : List Nat := x.cps.toList
def pre (S l : List Nat) : Bool := l.take S.length == S
def par (S : List Nat) : List Nat → List Nat → Option (List Nat × List Nat)
  | _, [] => none
  | acc, c :: r => if pre S (c :: r) = true then some (acc, (c :: r).drop S.length) else par S (acc ++ [c]) r
end TL
end 
namespace L2
open PySem PySem.Spec PyProof.Rows
section
variable {X : Cx} {pins : List (Addr × Obj)} {σ : St} {H : Hp} {s : Shared} {Q : VK}
end
section
variable {X : Cx}
end
section
variable {X : Cx} {o e : Expr} {to te : TE}
end
end L2
namespace L2
open PySem PySem.Spec PyProof.Rows
section
variable {X : Cx}
end
end L2
namespace Att
open PySem PySem.W PySem.Calls PyProof.Rows
section
variable {prog : Program} {w : World} {A : Around} {E : Value → Shared → Prop} {s : Shared} {K : Frag}
end
end Att
namespace L2
open PySem PySem.Spec PyProof.Rows
end L2
namespace L2
open PySem PySem.Spec PyProof.Rows
end L2
namespace L2
open PySem PySem.Spec PyProof.Rows
def defArgs (s : Stmt) : Arguments := match s with
  | .FunctionDef _ a _ _ _ _ _ _ _ _ => a
  | _ => { posonlyargs := [], args := [], vararg := none, kwonlyargs := [], kw_defaults := [], kwarg := none, defaults := [] }
def defBody (s : Stmt) : List Stmt := match s with
  | .FunctionDef _ _ b _ _ _ _ _ _ _ => b
  | _ => []
def defScope (s : Stmt) : Scope := match s with
  | .FunctionDef _ _ _ _ _ _ sc _ _ _ => sc
  | _ => { kind := .function, names := [], isGenerator := false, isCoroutine := false }
abbrev CX0 : CXT := fun _ _ _ _ _ _ => False
abbrev E0 : XK := fun _ _ _ => False
theorem pass0 {X : Cx} : Passes CX0 X E0 := fun _ _ _ _ _ _ _ h => h.elim
structure Fun (K : PySem.W.Frag) (x qual : Str) (st : Stmt) (f : Addr) (fd : FuncData) : Prop where
  ex : ∃ (oc : Value) (od : Option Addr) (kV doc pm : Value) (an : Option Addr) (cdv ct : Value) (osl : Array (Option Value)),
    fd = PySem.W.fnOf x qual (defArgs st) (defBody st) (defScope st) .none kV doc pm an cdv ct ∧ K.lookup f = some ⟨oc, od, .func fd, osl⟩ ∧ PySem.W.codeIn K cdv qual = true
  kp : PySem.W.keepIn K (.ref f) = true
section
variable {P : Program} {w : World} {K : PySem.W.Frag} {mg : Str → Option Value} {base : Heap}
theorem Fun.ok {x qual : Str} {st : Stmt} {f : Addr} {fd : FuncData} {N ps : List Str} {k : Nat} {sp : Sp} (F : Fun K x qual st f fd) (S : FnScope N ps (defScope st)) (len : ∀ vs H Q E, sp vs H Q E → vs.length = ps.length)
    (hbody : ∀ (cdv : Value) (A : Around) (outer : List Env) (s : Shared) (H : Hp) (vs : List V) (Q : VK) (E : XK), Room k (A.deeper (envOfC qual (defScope st) s.heap.objs.size f cdv)) → sp vs H Q E →
      ∃ t, PSs (cxOf CX0 P w K mg base N qual (defScope st) f cdv A outer s H E).nox (defBody st) t ∧ t { nx := fun _ H' => Q .non H', rt := Q } (start N vs) H) : FnOk P w K mg base CX0 (k + 1) f fd ps sp := by
  obtain ⟨oc, od, kV, doc, pm, an, cdv, ct, osl, rfl, lk, hcd⟩ := F.ex
  refine fn_of lk hcd S len fun A outer s H vs Q E hr hsp => ?_
  obtain ⟨t, h, q⟩ := hbody cdv A outer s H vs Q E hr hsp
  exact ⟨t, h.nox, q⟩
theorem Fun.binds {x qual : Str} {st : Stmt} {f : Addr} {fd : FuncData} {ps : List Str} (F : Fun K x qual st f fd)
    (h : ∀ (kV doc pm : Value) (an : Option Addr) (cdv ct : Value) (us : List Value), us.length = ps.length → bindArgs (PySem.W.fnOf x qual (defArgs st) (defBody st) (defScope st) .none kV doc pm an cdv ct) ⟨us, []⟩ = pure (ps.zip us)) : Binds K fd ps [] := by
  obtain ⟨oc, od, kV, doc, pm, an, cdv, ct, osl, rfl, lk, hcd⟩ := F.ex
  exact .all (h kV doc pm an cdv ct)
theorem fun_mk {x qual : Str} {st : Stmt} {f : Addr} {oc : Value} {od an : Option Addr} {osl : Array (Option Value)} {kV doc pm cdv ct : Value} (l : K.lookup f = some ⟨oc, od, .func (PySem.W.fnOf x qual (defArgs st) (defBody st) (defScope st) .none kV doc pm an cdv ct), osl⟩)
    (c : PySem.W.codeIn K cdv qual = true) (k : PySem.W.keepIn K (.ref f) = true) : Fun K x qual st f (PySem.W.fnOf x qual (defArgs st) (defBody st) (defScope st) .none kV doc pm an cdv ct) := ⟨⟨oc, od, kV, doc, pm, an, cdv, ct, osl, rfl, l, c⟩, k⟩
end
section
variable {X : Cx}
theorem pv (i : Nat) {x : Str} {pos : Pos} (hN : X.N[i]? = some x := by rfl) (hv : Vis X.env.scope x := by first | exact Or.inl rfl | exact Or.inr (Or.inl rfl) | exact Or.inr (Or.inr rfl)) (hd : (x == ("__debug__" : Str)) = false := by decide)
    (hcd : (x == ("__classdict__" : Str)) = false := by decide) : PE X (.Name x pos) (tVar i) := pe_var hN hv hd hcd
end
def Same (H H' : Hp) : Prop := ∀ b o, H b = some o → H' b = some o
theorem Same.refl (H : Hp) : Same H H := fun _ _ h => h
theorem Same.trans {H H1 H2 : Hp} (a : Same H H1) (b : Same H1 H2) : Same H H2 := fun c o h => b c o (a c o h)
theorem Same.free {H H' : Hp} (e : Same H H') {l : Addr} (h : H' l = Option.none) : H l = Option.none := by
  cases q : H l with
  | none => rfl
  | some o =>
    rw [e l o q] at h
    cases h
theorem Same.seq {K : PySem.W.Frag} {H H' : Hp} {a : Addr} {xs : List V} (e : Same H H') (h : SqL K H a xs) : SqL K H' a xs := by
  rcases h with (h | ⟨o, h⟩) | h
  · exact .inl (.inl (e _ _ h))
  · exact .inl (.inr ⟨o, e _ _ h⟩)
  · exact .inr h
section
variable {κ : Type} [DecidableEq κ]
end
end L2
end
section
set_option Elab.async false
set_option linter.all false
set_option maxRecDepth 100000
set_option maxHeartbeats 2000000
namespace L2
open PySem PySem.Spec PyProof.Rows
open PySem.W (WData Codec OpenSpec Well WellAll ReadsW ReadsAllW)
mutual
inductive Dw (K : PySem.W.Frag) (H : Hp) : V → WData → Prop
  | non : Dw K H .non .none
  | bl (b : Bool) : Dw K H (.bl b) (.bool b)
  | int (i : Int) : Dw K H (.int i) (.int i)
  | str (x : Str) : Dw K H (.str x) (.str x)
  | byt (b : Array UInt8) : Dw K H (.byt b) (.bytes b.toList)
  | lst {a : Addr} {xs : List V} {ds : List WData} : SqL K H a xs → DwAll K H xs ds → Dw K H (.ref a) (.list ds)
  | tup {a : Addr} {xs : List V} {ds : List WData} : SqT K H a xs → DwAll K H xs ds → Dw K H (.ref a) (.tuple ds)
inductive DwAll (K : PySem.W.Frag) (H : Hp) : List V → List WData → Prop
  | nil : DwAll K H [] []
  | cons {v : V} {vs : List V} {d : WData} {ds : List WData} : Dw K H v d → DwAll K H vs ds → DwAll K H (v :: vs) (d :: ds)
end
theorem dw_ints {K : PySem.W.Frag} {H : Hp} : ∀ ns : List Int, DwAll K H (ns.map V.int) (ns.map WData.int)
  | [] => .nil
  | n :: r => .cons (.int n) (dw_ints r)
theorem ints_dw {K : PySem.W.Frag} {H : Hp} : ∀ (ns : List Int) (xs : List V), DwAll K H xs (ns.map WData.int) → xs = ns.map V.int
  | [], xs, h => by
    cases h
    rfl
  | n :: r, xs, h => by
    cases h with
    | cons h1 h2 =>
      cases h1
      rw [ints_dw r _ h2] <;> rfl
section
variable {P : Program} {w : World} {K : PySem.W.Frag} {H : Hp} {h : Heap} {R : PySem.W.WRecords} {cl : Str → Option Addr}
theorem sqL_at {a : Addr} {xs : List V} (hok : HOk P w H h) (KX : K.In h) (q : SqL K H a xs) : ∃ (its : List Value) (o : Obj) (n : Nat), Vals xs its ∧ h.get? a = some o ∧ o.cls = .type "list" ∧ o.data = .seq its.toArray n := by
  rcases q with q | ⟨o, its, n, e, hc, _, hd, _, hv⟩
  · obtain ⟨_, its, n, hv, e⟩ := (show ObjOk P w H h a (.lst xs) from q.ok hok)
    exact ⟨its, _, n, hv, e, rfl, rfl⟩
  · exact ⟨its.toList, o, n, hv, KX _ _ e, hc, by simp [hd]⟩
theorem sqT_at {a : Addr} {xs : List V} (hok : HOk P w H h) (KX : K.In h) (q : SqT K H a xs) : ∃ (its : List Value) (o : Obj) (n : Nat), Vals xs its ∧ h.get? a = some o ∧ o.cls = .type "tuple" ∧ o.data = .seq its.toArray n := by
  rcases q with q | ⟨o, its, n, e, hc, hd, _, hv⟩
  · obtain ⟨_, its, hv, o, e, hc, n, hd⟩ := (show ObjOk P w H h a (.tup xs) from q.ok hok)
    exact ⟨its, o, n, hv, e, hc, hd⟩
  · exact ⟨its.toList, o, n, hv, KX _ _ e, hc, by simp [hd]⟩
mutual
theorem Dw.reads (hok : HOk P w H h) (KX : K.In h) : ∀ (d : WData) (v : V) (u : Value), Dw K H v d → RelV v u → ∃ as, ReadsW R cl h u d as
  | .none, _, _, x, r => by
    cases x
    cases r
    exact ⟨_, ReadsW.none⟩
  | .bool b, _, _, x, r => by
    cases x
    cases r
    exact ⟨_, ReadsW.bool b⟩
  | .int i, _, _, x, r => by
    cases x
    obtain ⟨t, rfl⟩ := r
    exact ⟨_, ReadsW.int i t⟩
  | .str s, _, _, x, r => by
    cases x
    obtain ⟨t, rfl⟩ := r
    exact ⟨_, ReadsW.str s t⟩
  | .bytes b, _, _, x, r => by
    cases x
    obtain ⟨t, rfl⟩ := r
    exact ⟨_, ReadsW.bytes _ t⟩
  | .list ds, _, _, x, r => by
    cases x with
    | lst hs ha =>
      cases r
      obtain ⟨its, o, n, rv, ho, hc, hd⟩ := sqL_at hok KX hs
      obtain ⟨as, hr⟩ := Dw.readsAll hok KX ds _ its ha rv
      exact ⟨_, ReadsW.list ho hc hd hr⟩
  | .tuple ds, _, _, x, r => by
    cases x with
    | tup hs ha =>
      cases r
      obtain ⟨its, o, n, rv, ho, hc, hd⟩ := sqT_at hok KX hs
      obtain ⟨as, hr⟩ := Dw.readsAll hok KX ds _ its ha rv
      exact ⟨_, ReadsW.tuple ho hc hd hr⟩
  | .float _, _, _, x, _ => by cases x
  | .dict _, _, _, x, _ => by cases x
  | .bytearray _, _, _, x, _ => by cases x
  | .set _, _, _, x, _ => by cases x
  | .frozenset _, _, _, x, _ => by cases x
  | .obj _ _, _, _, x, _ => by cases x
theorem Dw.readsAll (hok : HOk P w H h) (KX : K.In h) : ∀ (ds : List WData) (vs : List V) (us : List Value), DwAll K H vs ds → Vals vs us → ∃ as, ReadsAllW R cl h us ds as
  | [], _, _, x, r => by
    cases x
    cases r
    exact ⟨_, ReadsAllW.nil⟩
  | d :: ds, _, _, x, r => by
    cases x with
    | cons h1 h2 =>
      cases r with
      | cons r1 r2 =>
        obtain ⟨as, q1⟩ := Dw.reads hok KX d _ _ h1 r1
        obtain ⟨bs, q2⟩ := Dw.readsAll hok KX ds _ _ h2 r2
        exact ⟨_, ReadsAllW.cons q1 q2⟩
end
end
mutual
def plW : WData → Bool
  | .none => true
  | .bool _ => true
  | .int _ => true
  | .str _ => true
  | .bytes _ => true
  | .list xs => plWs xs
  | .tuple xs => plWs xs
  | _ => false
def plWs : List WData → Bool
  | [] => true
  | x :: r => plW x && plWs r
end
theorem plWs_map {α : Type} {f : α → WData} (h : ∀ a, plW (f a) = true) : ∀ l : List α, plWs (l.map f) = true
  | [] => rfl
  | x :: r => by
    show (plW (f x) && plWs (r.map f)) = true
    rw [h x, plWs_map h r] <;> rfl
theorem pl_enc : ∀ (c : Codec) (a : c.denote), plW (c.enc a) = true
  | .unit, _ => rfl
  | .bool, _ => rfl
  | .int _ _, _ => rfl
  | .nat _ _, _ => rfl
  | .u8, _ => rfl
  | .bytes _ _, _ => rfl
  | .text _ _ _ _, _ => rfl
  | .list _ _ c, a => plWs_map (fun x => pl_enc c x) a
  | .pair c d, a => by
    show (plW (c.enc a.1) && (plW (d.enc a.2) && true)) = true
    rw [pl_enc c a.1, pl_enc d a.2] <;> rfl
  | .triple c d e, a => by
    show (plW (c.enc a.1) && (plW (d.enc a.2.1) && (plW (e.enc a.2.2) && true))) = true
    rw [pl_enc c a.1, pl_enc d a.2.1, pl_enc e a.2.2] <;> rfl
  | .option c, none => rfl
  | .option c, some x => pl_enc c x
theorem pl_encAll : ∀ (cs : List Codec) (a : Codec.denoteAll cs), plWs (Codec.encAll cs a) = true
  | [], _ => rfl
  | c :: cs, a => by
    show (plW (c.enc a.1) && plWs (Codec.encAll cs a.2)) = true
    rw [pl_enc c a.1, pl_encAll cs a.2] <;> rfl
theorem weight_mem : ∀ {xs : List WData} {d : WData}, d ∈ xs → d.weight ≤ WData.weightAll xs
  | [], d, h => absurd h (by simp)
  | x :: r, d, h => by
    show d.weight ≤ x.weight + 1 + WData.weightAll r
    rcases List.mem_cons.mp h with e | m
    · rw [e]
      omega
    · have z := weight_mem m
      omega
def toV : Value → V
  | .none => .non
  | .bool b => .bl b
  | .int i _ => .int i
  | .str x _ => .str x
  | .bytes b _ => .byt b
  | .ref a => .ref a
  | _ => .non
def OkU (A : List Addr) : Value → Prop
  | .none => True
  | .bool _ => True
  | .int _ _ => True
  | .str _ _ => True
  | .bytes _ _ => True
  | .ref a => a ∈ A
  | _ => False
theorem OkU.mono {A B : List Addr} (h : ∀ a ∈ A, a ∈ B) : ∀ {u : Value}, OkU A u → OkU B u := fun {u} x => by
  cases u with
  | ref a => exact h a x
  | none => trivial
  | bool b => trivial
  | int i t => trivial
  | str s t => trivial
  | bytes b t => trivial
  | _ => exact False.elim x
theorem relV_toV {A : List Addr} {u : Value} (x : OkU A u) : RelV (toV u) u := by
  cases u with
  | ref a => rfl
  | none => rfl
  | bool b => rfl
  | int i t => exact ⟨t, rfl⟩
  | str s t => exact ⟨t, rfl⟩
  | bytes b t => exact ⟨t, rfl⟩
  | _ => exact False.elim x
theorem vals_toV {A : List Addr} : ∀ {vs : List Value}, (∀ u ∈ vs, OkU A u) → Vals (vs.map toV) vs
  | [], _ => .nil
  | u :: r, h => .cons (relV_toV (h u (List.mem_cons_self ..))) (vals_toV fun x hx => h x (List.mem_cons_of_mem _ hx))
def ArgOb (h : Heap) (A : List Addr) (a : Addr) : Prop := ∃ vs : List Value, vs.length ≤ sizeLine ∧ (∀ u ∈ vs, OkU A u) ∧
  (h.get? a = some { cls := .type "list", data := .seq vs.toArray } ∨ h.get? a = some { cls := .type "tuple", data := .seq vs.toArray })
theorem ArgOb.mono {h : Heap} {A B : List Addr} {a : Addr} (k : ∀ a ∈ A, a ∈ B) (x : ArgOb h A a) : ArgOb h B a := by
  obtain ⟨vs, h1, h2, h3⟩ := x
  exact ⟨vs, h1, fun u hu => (h2 u hu).mono k, h3⟩
theorem wellAll_len {P : Params} {h : Heap} : ∀ {vs : List Value} {ds : List WData}, WellAll P h vs ds → vs.length = ds.length
  | _, _, .nil => rfl
  | _, _, .cons _ b => by
    show _ + 1 = _ + 1
    rw [wellAll_len b]
theorem well_list {P : Params} {h : Heap} {v : Value} {ds : List WData} (x : Well P h v (.list ds)) : ∃ (a : Addr) (vs : List Value), v = .ref a ∧ h.get? a = some { cls := .type "list", data := .seq vs.toArray } ∧ WellAll P h vs ds := by
  cases x with
  | list ho hall => exact ⟨_, _, rfl, ho, hall⟩
theorem well_tuple {P : Params} {h : Heap} {v : Value} {ds : List WData} (x : Well P h v (.tuple ds)) : ∃ (a : Addr) (vs : List Value), v = .ref a ∧ h.get? a = some { cls := .type "tuple", data := .seq vs.toArray } ∧ WellAll P h vs ds := by
  cases x with
  | tuple ho hall => exact ⟨_, _, rfl, ho, hall⟩
theorem well_cons {P : Params} {h : Heap} {us : List Value} {d : WData} {ds : List WData} (x : WellAll P h us (d :: ds)) : ∃ (v : Value) (vs : List Value), us = v :: vs ∧ Well P h v d ∧ WellAll P h vs ds := by
  cases x with
  | cons a b => exact ⟨_, _, rfl, a, b⟩
theorem line_of {n : Nat} (h : n ≤ 1048576) : n ≤ sizeLine := Nat.le_trans h (by decide)
section
variable {P : Params} {h : Heap}
mutual
theorem area_one : ∀ (d : WData) (v : Value), Well P h v d → plW d = true → d.weight ≤ 1048576 → ∃ A : List Addr, OkU A v ∧ ∀ a ∈ A, ArgOb h A a
  | .none, _, x, _, _ => by
    cases x
    exact ⟨[], trivial, fun a m => absurd m (by simp)⟩
  | .bool b, _, x, _, _ => by
    cases x
    exact ⟨[], trivial, fun a m => absurd m (by simp)⟩
  | .int i, _, x, _, _ => by
    cases x
    exact ⟨[], trivial, fun a m => absurd m (by simp)⟩
  | .str s, _, x, _, _ => by
    cases x
    exact ⟨[], trivial, fun a m => absurd m (by simp)⟩
  | .bytes b, _, x, _, _ => by
    cases x
    exact ⟨[], trivial, fun a m => absurd m (by simp)⟩
  | .list ds, _, x, p, z => by
    obtain ⟨a, vs, rfl, ho, hall⟩ := well_list x
    have z2 : WData.weightAll ds ≤ 1048576 := z
    obtain ⟨A, h1, h2⟩ := area_all ds _ hall p fun d hd => Nat.le_trans (weight_mem hd) z2
    have k : ∀ b ∈ A, b ∈ a :: A := fun b hb => List.mem_cons_of_mem _ hb
    refine ⟨a :: A, List.mem_cons_self .., fun b hb => ?_⟩
    rcases List.mem_cons.mp hb with e | m
    · rw [e]
      exact ⟨vs, line_of (by rw [wellAll_len hall]; exact Nat.le_trans (PySem.W.length_le_weightAllW ds) z2), fun u hu => (h1 u hu).mono k, .inl ho⟩
    · exact (h2 b m).mono k
  | .tuple ds, _, x, p, z => by
    obtain ⟨a, vs, rfl, ho, hall⟩ := well_tuple x
    have z2 : WData.weightAll ds ≤ 1048576 := z
    obtain ⟨A, h1, h2⟩ := area_all ds _ hall p fun d hd => Nat.le_trans (weight_mem hd) z2
    have k : ∀ b ∈ A, b ∈ a :: A := fun b hb => List.mem_cons_of_mem _ hb
    refine ⟨a :: A, List.mem_cons_self .., fun b hb => ?_⟩
    rcases List.mem_cons.mp hb with e | m
    · rw [e]
      exact ⟨vs, line_of (by rw [wellAll_len hall]; exact Nat.le_trans (PySem.W.length_le_weightAllW ds) z2), fun u hu => (h1 u hu).mono k, .inr ho⟩
    · exact (h2 b m).mono k
  | .float _, _, _, p, _ => Bool.noConfusion (show false = true from p)
  | .dict _, _, _, p, _ => Bool.noConfusion (show false = true from p)
  | .bytearray _, _, _, p, _ => Bool.noConfusion (show false = true from p)
  | .set _, _, _, p, _ => Bool.noConfusion (show false = true from p)
  | .frozenset _, _, _, p, _ => Bool.noConfusion (show false = true from p)
  | .obj _ _, _, _, p, _ => Bool.noConfusion (show false = true from p)
theorem area_all : ∀ (ds : List WData) (vs : List Value), WellAll P h vs ds → plWs ds = true → (∀ d ∈ ds, d.weight ≤ 1048576) → ∃ A : List Addr, (∀ u ∈ vs, OkU A u) ∧ ∀ a ∈ A, ArgOb h A a
  | [], _, x, _, _ => by
    cases x
    exact ⟨[], fun u m => absurd m (by simp), fun a m => absurd m (by simp)⟩
  | d :: ds, _, x, p, z => by
    obtain ⟨v, vs, rfl, x1, x2⟩ := well_cons x
    have q : plW d = true ∧ plWs ds = true := Bool.and_eq_true_iff.mp p
    obtain ⟨A, a1, a2⟩ := area_one d v x1 q.1 (z d (List.mem_cons_self ..))
    obtain ⟨B, b1, b2⟩ := area_all ds vs x2 q.2 fun e he => z e (List.mem_cons_of_mem _ he)
    have kA : ∀ b ∈ A, b ∈ A ++ B := fun b hb => List.mem_append.mpr (.inl hb)
    have kB : ∀ b ∈ B, b ∈ A ++ B := fun b hb => List.mem_append.mpr (.inr hb)
    refine ⟨A ++ B, fun u hu => ?_, fun b hb => ?_⟩
    · rcases List.mem_cons.mp hu with e | m
      · rw [e]
        exact a1.mono kA
      · exact (b1 u m).mono kB
    · rcases List.mem_append.mp hb with m | m
      · exact (a2 b m).mono kA
      · exact (b2 b m).mono kB
end
end
def hoOf (o : Obj) : Option HO := match o.data with
  | .seq vs _ => if (o.cls == Value.type "list") = true then some (.frz o (.lst (vs.toList.map toV))) else some (.frz o (.tup (vs.toList.map toV)))
  | _ => none
def argH (K : PySem.W.Frag) (h : Heap) (A : List Addr) : Hp := fun b => if b ∈ A then (if (K.lookup b).isNone = true then (h.get? b).bind hoOf else none) else none
def OnlyF (H : Hp) : Prop := ∀ b, H b = none ∨ ∃ o u, H b = some (.frz o u)
theorem hoOf_lst (vs : List Value) : hoOf { cls := .type "list", data := .seq vs.toArray } = some (.frz { cls := .type "list", data := .seq vs.toArray } (.lst (vs.map toV))) := by
  show (if (Value.type "list" == Value.type "list") = true then some (HO.frz { cls := .type "list", data := .seq vs.toArray } (.lst (vs.toArray.toList.map toV))) else some (HO.frz { cls := .type "list", data := .seq vs.toArray } (.tup (vs.toArray.toList.map toV)))) = _
  rw [if_pos (beq_self_eq_true _)]
theorem hoOf_tup (vs : List Value) : hoOf { cls := .type "tuple", data := .seq vs.toArray } = some (.frz { cls := .type "tuple", data := .seq vs.toArray } (.tup (vs.map toV))) := by
  show (if (Value.type "tuple" == Value.type "list") = true then some (HO.frz { cls := .type "tuple", data := .seq vs.toArray } (.lst (vs.toArray.toList.map toV))) else some (HO.frz { cls := .type "tuple", data := .seq vs.toArray } (.tup (vs.toArray.toList.map toV)))) = _
  rw [if_neg (by decide)]
section
variable {P : Program} {w : World} {K : PySem.W.Frag} {h : Heap} {A : List Addr}
theorem argH_at {b : Addr} {o : Obj} (hb : b ∈ A) (hk : K.lookup b = none) (e : h.get? b = some o) : argH K h A b = hoOf o := by
  unfold argH
  rw [if_pos hb, hk, if_pos (show (none : Option Obj).isNone = true from rfl), e] <;> rfl
theorem of_argH {b : Addr} {u : HO} (q : argH K h A b = some u) : b ∈ A ∧ K.lookup b = none := by
  unfold argH at q
  by_cases hb : b ∈ A
  · rw [if_pos hb] at q
    cases hk : K.lookup b with
    | none => exact ⟨hb, rfl⟩
    | some o =>
      rw [hk, if_neg (by simp)] at q
      cases q
  · rw [if_neg hb] at q
    cases q
theorem argH_is (ar : ∀ a ∈ A, ArgOb h A a) {b : Addr} {u : HO} (q : argH K h A b = some u) : K.lookup b = none ∧ ∃ vs : List Value, vs.length ≤ sizeLine ∧ (∀ u ∈ vs, OkU A u) ∧
    ((h.get? b = some { cls := .type "list", data := .seq vs.toArray } ∧ u = .frz { cls := .type "list", data := .seq vs.toArray } (.lst (vs.map toV))) ∨
     (h.get? b = some { cls := .type "tuple", data := .seq vs.toArray } ∧ u = .frz { cls := .type "tuple", data := .seq vs.toArray } (.tup (vs.map toV)))) := by
  obtain ⟨hb, hk⟩ := of_argH q
  obtain ⟨vs, h1, h2, h3⟩ := ar b hb
  refine ⟨hk, vs, h1, h2, ?_⟩
  rcases h3 with e | e
  · rw [argH_at hb hk e, hoOf_lst] at q
    exact .inl ⟨e, (Option.some.inj q).symm⟩
  · rw [argH_at hb hk e, hoOf_tup] at q
    exact .inr ⟨e, (Option.some.inj q).symm⟩
theorem argH_only (ar : ∀ a ∈ A, ArgOb h A a) : OnlyF (argH K h A) := fun b => by
  cases q : argH K h A b with
  | none => exact .inl rfl
  | some u =>
    obtain ⟨_, vs, _, _, ⟨_, e⟩ | ⟨_, e⟩⟩ := argH_is ar q
    · exact .inr ⟨_, _, by rw [e]⟩
    · exact .inr ⟨_, _, by rw [e]⟩
theorem argH_ok (ar : ∀ a ∈ A, ArgOb h A a) : HOk P w (argH K h A) h := fun b u q => by
  obtain ⟨_, vs, h1, h2, ⟨e, rfl⟩ | ⟨e, rfl⟩⟩ := argH_is ar q
  · exact ⟨e, by rw [List.length_map]; exact h1, vs, _, vals_toV h2, e⟩
  · exact ⟨e, by rw [List.length_map]; exact h1, vs, vals_toV h2, _, e, rfl, _, rfl⟩
theorem seq_inj {c c' : Value} {vs us : List Value} (e : (some { cls := c, data := .seq vs.toArray } : Option Obj) = some { cls := c', data := .seq us.toArray }) : c = c' ∧ vs = us := by
  have e1 := Option.some.inj e
  have e2 : c = c' := congrArg Obj.cls e1
  have e3 : Data.seq vs.toArray = Data.seq us.toArray := congrArg Obj.data e1
  injection e3 with e4
  refine ⟨e2, ?_⟩
  have e5 := congrArg Array.toList e4
  simpa using e5
theorem argL (KX : K.In h) (ar : ∀ a ∈ A, ArgOb h A a) {a : Addr} {vs : List Value} (ha : a ∈ A) (e : h.get? a = some { cls := .type "list", data := .seq vs.toArray }) : (∀ u ∈ vs, OkU A u) ∧ SqL K (argH K h A) a (vs.map toV) := by
  obtain ⟨us, h1, h2, h3⟩ := ar a ha
  have hu : us = vs := by
    rcases h3 with q | q
    · rw [e] at q
      exact (seq_inj q).2.symm
    · rw [e] at q
      exact absurd (Value.type.inj (seq_inj q).1) (by decide)
  subst hu
  refine ⟨h2, ?_⟩
  cases hk : K.lookup a with
  | none => exact .inl (.inr ⟨_, by rw [argH_at ha hk e, hoOf_lst]⟩)
  | some o =>
    have e2 := KX a o hk
    rw [e] at e2
    obtain rfl := Option.some.inj e2
    exact .inr ⟨_, us.toArray, _, hk, rfl, rfl, rfl, by rw [List.size_toArray]; exact h1, by simpa using vals_toV h2⟩
theorem argT (KX : K.In h) (ar : ∀ a ∈ A, ArgOb h A a) {a : Addr} {vs : List Value} (ha : a ∈ A) (e : h.get? a = some { cls := .type "tuple", data := .seq vs.toArray }) : (∀ u ∈ vs, OkU A u) ∧ SqT K (argH K h A) a (vs.map toV) := by
  obtain ⟨us, h1, h2, h3⟩ := ar a ha
  have hu : us = vs := by
    rcases h3 with q | q
    · rw [e] at q
      exact absurd (Value.type.inj (seq_inj q).1) (by decide)
    · rw [e] at q
      exact (seq_inj q).2.symm
  subst hu
  refine ⟨h2, ?_⟩
  cases hk : K.lookup a with
  | none => exact .inl (.inr ⟨_, by rw [argH_at ha hk e, hoOf_tup]⟩)
  | some o =>
    have e2 := KX a o hk
    rw [e] at e2
    obtain rfl := Option.some.inj e2
    exact .inr ⟨_, us.toArray, _, hk, rfl, rfl, by rw [List.size_toArray]; exact h1, by simpa using vals_toV h2⟩
mutual
theorem dw_one {Pm : Params} (KX : K.In h) (ar : ∀ a ∈ A, ArgOb h A a) : ∀ (d : WData) (v : Value), Well Pm h v d → plW d = true → OkU A v → Dw K (argH K h A) (toV v) d
  | .none, _, x, _, _ => by
    cases x
    exact .non
  | .bool b, _, x, _, _ => by
    cases x
    exact .bl b
  | .int i, _, x, _, _ => by
    cases x
    exact .int i
  | .str s, _, x, _, _ => by
    cases x
    exact .str s
  | .bytes b, _, x, _, _ => by
    cases x
    have z := Dw.byt (K := K) (H := argH K h A) b.toArray
    exact z
  | .list ds, _, x, p, hu => by
    obtain ⟨a, vs, rfl, ho, hall⟩ := well_list x
    obtain ⟨h2, hs⟩ := argL KX ar hu ho
    exact .lst hs (dw_all KX ar ds _ hall p h2)
  | .tuple ds, _, x, p, hu => by
    obtain ⟨a, vs, rfl, ho, hall⟩ := well_tuple x
    obtain ⟨h2, hs⟩ := argT KX ar hu ho
    exact .tup hs (dw_all KX ar ds _ hall p h2)
  | .float _, _, _, p, _ => Bool.noConfusion (show false = true from p)
  | .dict _, _, _, p, _ => Bool.noConfusion (show false = true from p)
  | .bytearray _, _, _, p, _ => Bool.noConfusion (show false = true from p)
  | .set _, _, _, p, _ => Bool.noConfusion (show false = true from p)
  | .frozenset _, _, _, p, _ => Bool.noConfusion (show false = true from p)
  | .obj _ _, _, _, p, _ => Bool.noConfusion (show false = true from p)
theorem dw_all {Pm : Params} (KX : K.In h) (ar : ∀ a ∈ A, ArgOb h A a) : ∀ (ds : List WData) (vs : List Value), WellAll Pm h vs ds → plWs ds = true → (∀ u ∈ vs, OkU A u) → DwAll K (argH K h A) (vs.map toV) ds
  | [], _, x, _, _ => by
    cases x
    exact .nil
  | d :: ds, _, x, p, hu => by
    obtain ⟨v, vs, rfl, x1, x2⟩ := well_cons x
    have q : plW d = true ∧ plWs ds = true := Bool.and_eq_true_iff.mp p
    exact .cons (dw_one KX ar d v x1 q.1 (hu _ (List.mem_cons_self ..))) (dw_all KX ar ds vs x2 q.2 fun u m => hu u (List.mem_cons_of_mem _ m))
end
end
theorem spec_call {P : Program} {w : World} {K : PySem.W.Frag} {mg mb : Str → Option Value} {CX : CXT} {k : Nat} {fa : Addr} {fd : FuncData} {ps : List Str} {sp : Sp} {s₁ : Shared} {vals : List Value} {ds : List WData} {R : PySem.W.WRecords} {cl : Str → Option Addr} {d0 : WData}
    (KX : K.In s₁.heap) (hns : s₁.heap.Ns mainGlobals mg) (hb : s₁.heap.Ns builtinsNs mb) (hbb : ∀ x : Str, x ≠ "__name__" → mb x = bootBuiltins x) (hlim : s₁.heap.NoLimit) (hg : s₁.gens = #[])
    (hwl : WellAll w.params s₁.heap vals ds) (hpl : plWs ds = true) (hwt : ∀ d ∈ ds, d.weight ≤ 1048576) (hr : Room k callerA)
    (F : ∀ base : Heap, K.In base → base.Ns mainGlobals mg → FnOk P w K mg base CX k fa fd ps sp) (hbind : ∀ (s : Shared) (us : List Value), us.length = ps.length → BindsTo s fd ⟨us, []⟩ (ps.zip us)) (hlen : ds.length = ps.length)
    (hsp : ∀ (H : Hp) (xs : List V), OnlyF H → DwAll K H xs ds → sp xs H (fun v H' => Dw K H' v d0) fun _ _ _ => False)
    (hCX : ∀ H e s', CX [] H s₁ (fun _ _ _ => False) e s' → False) :
    codeAny (model P w) callerA (.call (.ref fa) ⟨vals, []⟩) (fun r s' => ∃ u as, r = .ok (.ret u) ∧ ReadsW R cl s'.heap u d0 as ∧ OldK s₁.heap s'.heap ∧ s'.os = s₁.os ∧ AllBare s'.gens) s₁ := by
  obtain ⟨A, ho, ar⟩ := area_all ds vals hwl hpl hwt
  have hO : OnlyF (argH K s₁.heap A) := argH_only ar
  have hok : HOk P w (argH K s₁.heap A) s₁.heap := argH_ok ar
  have hS := dw_all KX ar ds vals hwl hpl ho
  have hV := vals_toV ho
  have hK : ∀ b u, argH K s₁.heap A b = some u → K.lookup b = none := fun b u q => (argH_is ar q).1
  have noA : ∀ {b : Addr} {o : Obj} {es : Array DictEntry} {ep : Nat}, s₁.heap.get? b = some o → o.data = .dict es ep → argH K s₁.heap A b = none := fun {b o es ep} e d => by
    cases q : argH K s₁.heap A b with
    | none => rfl
    | some u =>
      obtain ⟨_, vs, _, _, ⟨e2, _⟩ | ⟨e2, _⟩⟩ := argH_is ar q
      · rw [e2] at e
        cases e
        have d' : Data.seq vs.toArray _ = Data.dict es ep := d
        cases d'
      · rw [e2] at e
        cases e
        have d' : Data.seq vs.toArray _ = Data.dict es ep := d
        cases d'
  generalize argH K s₁.heap A = H at hO hok hS hK noA
  have base_of : ∀ {b : Addr} {o : Obj}, s₁.heap.get? b = some o → H b = none → (hidT s₁.heap H).get? b = some o := fun e n => hidT_get e n
  have nsK : ∀ {b : Addr} {m : Str → Option Value}, s₁.heap.Ns b m → (hidT s₁.heap H).Ns b m := fun {b m} ⟨o, es, ep, e, d, r⟩ => ⟨o, es, ep, base_of e (noA e d), d, r⟩
  have nK : ∀ b o, K.lookup b = some o → H b = none := fun b o e => by
    cases q : H b with
    | none => rfl
    | some u =>
      rw [hK b u q] at e
      cases e
  have hKb : K.In (hidT s₁.heap H) := fun b o e => base_of (KX b o e) (nK b o e)
  have hM : Mod K mg (hidT s₁.heap H) := ⟨hKb, nsK hns, ⟨mb, nsK hb, hbb⟩, let ⟨mc, h1, h2⟩ := hlim; ⟨mc, nsK h1, h2⟩⟩
  have e0 : Env0 P w K mg (hidT s₁.heap H) callerA [] s₁ H := ⟨rfl, hM, fun b o e => of_hidT e, Nat.le_of_eq (hidT_size _ _), trivial, fun b hb => absurd (show b ∈ ([] : List Addr) from hb) (by simp), hok, .of_eq hg⟩
  have hl : vals.length = ps.length := by rw [wellAll_len hwl]; exact hlen
  refine codeAny_mono ((F _ hKb (nsK hns)).run callerA [] s₁ H ⟨vals, []⟩ vals (vals.map toV) _ _ hr e0 (hbind s₁ vals hl) hV (hsp H _ hO hS)) fun r s' x => ?_
  cases r with
  | error e => exact (hCX H e s' x).elim
  | ok fl =>
    cases fl with
    | next => exact False.elim x
    | brk => exact False.elim x
    | cont => exact False.elim x
    | ret u =>
      obtain ⟨v, H', os, bare, un, hok', r', q⟩ := x
      have kept : ∀ b o, s₁.heap.get? b = some o → s'.heap.get? b = some o := fun b o e => by
        cases q2 : H b with
        | none => exact un.keep b o e q2 (by intro z; exact absurd (show b ∈ ([] : List Addr) from z) (by simp)) (by simp)
        | some u2 =>
          rcases hO b with z | ⟨ob, u3, z⟩
          · rw [q2] at z
            cases z
          · have z2 := un.frzs b ob _ z
            obtain ⟨e1, _⟩ := hok b _ z
            obtain ⟨e2, _⟩ := hok' b _ z2
            rw [e] at e1
            cases e1
            exact e2
      have KX' : K.In s'.heap := fun b o e => kept b o (KX b o e)
      obtain ⟨as, hrd⟩ := Dw.reads (R := R) (cl := cl) hok' KX' d0 v u q r'
      exact ⟨u, as, rfl, hrd, OldK.of_keep kept, os, bare⟩
theorem layable_weight {ds : List WData} (h : WData.layableAll ds = true) : ∀ d ∈ ds, d.weight ≤ 1048576 := fun d hd =>
  (PySem.W.layableW_iff.mp (List.all_eq_true.mp h d hd)).2.2
theorem encAll_len : ∀ (cs : List Codec) (a : Codec.denoteAll cs), (Codec.encAll cs a).length = cs.length
  | [], _ => rfl
  | c :: cs, a => by
    show (Codec.encAll cs a.2).length + 1 = cs.length + 1
    rw [encAll_len cs a.2]
theorem walk_spec {r : OpenSpec} {k : Nat} {q : Program} {loose : List Str} {XP : (Str → Option Value) → Heap → Prop} {YP : World → Heap → Prop} {d : DefRec} {K : Params → PySem.W.Frag} {CX : World → CXT} {ps : List Str} {sp : World → Sp}
    (hwell : r.wellSaid = true) (hdf : d.params.defaults = []) (hlen : r.args.length = ps.length) (hr : Room k callerA)
    (hY : ∀ (w : World) (h : Heap), YP w h → (K w.params).In h)
    (F : ∀ (w : World) (mg : Str → Option Value) (fa : Addr) (h : Heap), YP w h → (K w.params).In h → h.Ns mainGlobals mg → mg d.name = some (.ref fa) →
      ∃ fd : FuncData, (∀ (s : Shared) (us : List Value), us.length = ps.length → BindsTo s fd ⟨us, []⟩ (ps.zip us)) ∧
        ∀ base : Heap, (K w.params).In base → base.Ns mainGlobals mg → FnOk r.prog w (K w.params) mg base (CX w) k fa fd ps (sp w))
    (hsp : ∀ (w : World) (H : Hp) (xs : List V) (a : Codec.denoteAll r.args), OnlyF H → Codec.withinAll r.args a = true → Codec.app r.args r.asked a = true → DwAll (K w.params) H xs (Codec.encAll r.args a) →
      sp w xs H (fun v H' => Dw (K w.params) H' v (r.ret.enc (Codec.app r.args r.f a))) fun _ _ _ => False)
    (hCX : ∀ (w : World) (H : Hp) (s : Shared) (e : Value) (s' : Shared), CX w [] H s (fun _ _ _ => False) e s' → False) :
    PySem.W.WalkOS q loose XP YP r d [] (fun f vs => PySem.call f vs) := by
  intro w s_0 s₁ mg mb G Y fa o pm cd doc dV kV ho hd hcd hD hmg hg args vals as hpre hlay hrd hwl hlo
  obtain ⟨a, e1, e2⟩ := PySem.W.os_pre_some hpre
  obtain ⟨e3, hwi⟩ := Codec.encAll_of_decAll r.args args a e1
  subst e3
  have KX := hY w _ Y
  obtain ⟨fd, hb, hF⟩ := F w mg fa _ Y KX G.T.g hmg
  refine PySem.W.enter_call (codeAny_mono (spec_call (R := []) (cl := classAt s_0.heap) (d0 := r.ret.enc (Codec.app r.args r.f a)) KX G.T.g G.T.b G.T.builtins G.T.nolimit hg hwl (pl_encAll _ _) (layable_weight hlay) hr hF hb (by rw [encAll_len]; exact hlen)
    (fun H xs hO hS => hsp w H xs a hO hwi e2 hS) fun H e s' => hCX w H s₁ e s') fun r' s' hq => ?_)
  obtain ⟨u, as', rfl, h1, h2, h3, h4⟩ := hq
  exact ⟨.inl ⟨u, _, as', rfl, fun _ => rfl, h1, (OpenSpec.post_iff hwell hwi _ _).mpr rfl, fun z => Bool.noConfusion (show false = true from z)⟩, h2, h3, h4⟩
theorem walk_specK {r : OpenSpec} {k : Nat} {q : Program} {loose : List Str} {XP : (Str → Option Value) → Heap → Prop} {YP : World → Heap → Prop} {d : DefRec} {K : Params → PySem.W.Frag} {CX : CXT} {ps : List Str} {sp : PySem.W.Frag → Sp}
    (hwell : r.wellSaid = true) (hdf : d.params.defaults = []) (hlen : r.args.length = ps.length) (hr : Room k callerA)
    (hY : ∀ (w : World) (h : Heap), YP w h → (K w.params).In h)
    (F : ∀ (w : World) (mg : Str → Option Value) (fa : Addr) (h : Heap), YP w h → (K w.params).In h → h.Ns mainGlobals mg → mg d.name = some (.ref fa) →
      ∃ fd : FuncData, (∀ (s : Shared) (us : List Value), us.length = ps.length → BindsTo s fd ⟨us, []⟩ (ps.zip us)) ∧
        ∀ base : Heap, (K w.params).In base → base.Ns mainGlobals mg → FnOk r.prog w (K w.params) mg base CX k fa fd ps (sp (K w.params)))
    (hsp : ∀ (K : PySem.W.Frag) (H : Hp) (xs : List V) (a : Codec.denoteAll r.args), OnlyF H → Codec.withinAll r.args a = true → Codec.app r.args r.asked a = true → DwAll K H xs (Codec.encAll r.args a) →
      sp K xs H (fun v H' => Dw K H' v (r.ret.enc (Codec.app r.args r.f a))) fun _ _ _ => False)
    (hCX : ∀ (H : Hp) (s : Shared) (e : Value) (s' : Shared), CX [] H s (fun _ _ _ => False) e s' → False) :
    PySem.W.WalkOS q loose XP YP r d [] (fun f vs => PySem.call f vs) :=
  walk_spec (K := K) (CX := fun _ => CX) (sp := fun w => sp (K w.params)) hwell hdf hlen hr hY F (fun w H xs a h1 h2 h3 h4 => hsp (K w.params) H xs a h1 h2 h3 h4) fun _ H s e s' => hCX H s e s'
end L2
end
section
set_option Elab.async false
set_option linter.all false
set_option maxRecDepth 100000
set_option maxHeartbeats 1000000
noncomputable section
namespace Dn
open L2
open PySem.W (WData)
def yes (q : Prop) : Bool := @decide q (Classical.propDecidable q)
theorem yes_of {q : Prop} (h : q) : yes q = true := by unfold yes; exact @decide_eq_true q (Classical.propDecidable q) h
theorem of_yes {q : Prop} (h : yes q = true) : q := @of_decide_eq_true q (Classical.propDecidable q) h
inductive Sl where
  | val (d : WData)
  | own (ds : List WData)
abbrev Rho := List (Option Sl)
def wipeR (ρ : Rho) : List Nat → Rho
  | [] => ρ
  | v :: vs => (wipeR ρ vs).set v none
def freeze (i : Nat) (ρ : Rho) : Rho := match ρ[i]? with
  | some (some (Sl.own ds)) => ρ.set i (some (.val (.list ds)))
  | _ => ρ
abbrev DE := Rho → Option WData
abbrev DT := Rho → Option Bool
abbrev DA := Rho → Option (List WData)
def dVar (i : Nat) : DE := fun ρ => match ρ[i]? with
  | some (some (.val d)) => some d
  | _ => none
def dC (d : WData) : DE := fun _ => some d
def dOp (h : WData → WData → Option WData) (f g : DE) : DE := fun ρ => (f ρ).bind fun x => (g ρ).bind fun y => h x y
def hI (g : Int → Int → Option WData) : WData → WData → Option WData
  | .int i, .int j => g i j
  | _, _ => none
def hAdd : WData → WData → Option WData := hI fun i j => some (.int (i + j))
def hSub : WData → WData → Option WData := hI fun i j => some (.int (i - j))
def cMul (i j : Int) : Bool := yes ((-(2 ^ 64) < i ∧ i < 2 ^ 64) ∨ (-(2 ^ 64) < j ∧ j < 2 ^ 64))
def hMul : WData → WData → Option WData := hI fun i j => if cMul i j = true then some (.int (i * j)) else none
def cMod (_i j : Int) : Bool := yes (0 < j)
def hMod : WData → WData → Option WData := hI fun i j => if cMod i j = true then some (.int (i % j)) else none
def cDiv (_i j : Int) : Bool := yes (0 < j ∧ j < 1073741824)
def hDiv : WData → WData → Option WData := hI fun i j => if cDiv i j = true then some (.int (i / j)) else none
def hLt : WData → WData → Option WData := hI fun i j => some (.bool (decide (i < j)))
def hLe : WData → WData → Option WData := hI fun i j => some (.bool (decide (i ≤ j)))
def hGt : WData → WData → Option WData := hI fun i j => some (.bool (decide (j < i)))
def hGe : WData → WData → Option WData := hI fun i j => some (.bool (decide (j ≤ i)))
def hEq : WData → WData → Option WData := hI fun i j => some (.bool (decide (i = j)))
def hNe : WData → WData → Option WData := hI fun i j => some (.bool (!decide (i = j)))
def dNeg (f : DE) : DE := fun ρ => (f ρ).bind fun x => match x with
  | .int i => some (.int (-i))
  | _ => none
def intsOf : List WData → Option (List Int)
  | [] => some []
  | .int i :: r => (intsOf r).map (i :: ·)
  | _ => none
def hIn (neg : Bool) : WData → WData → Option WData
  | .int i, .tuple ds => (intsOf ds).map fun ns => .bool (if neg then !decide (i ∈ ns) else decide (i ∈ ns))
  | .int i, .list ds => (intsOf ds).map fun ns => .bool (if neg then !decide (i ∈ ns) else decide (i ∈ ns))
  | _, _ => none
def hIx : WData → WData → Option WData
  | .list ds, .int i => atI ds i
  | .tuple ds, .int i => atI ds i
  | _, _ => none
def dIxO (i : Nat) (f : DE) : DE := fun ρ => match ρ[i]? with
  | some (some (.own ds)) => (f ρ).bind fun j => hIx (.list ds) j
  | _ => none
def dTest (f : DE) : DT := fun ρ => match f ρ with
  | some (.bool b) => some b
  | _ => none
def dAnd (f g : DT) : DT := fun ρ => (f ρ).bind fun c => if c = true then g ρ else some false
def dOr (f g : DT) : DT := fun ρ => (f ρ).bind fun c => if c = true then some true else g ρ
def dNot (f : DT) : DT := fun ρ => (f ρ).map (!·)
def dAndV (f g : DE) : DE := fun ρ => (f ρ).bind fun x => match x with
  | .bool c => if c = true then g ρ else some (.bool false)
  | _ => none
def dOrV (f g : DE) : DE := fun ρ => (f ρ).bind fun x => match x with
  | .bool c => if c = true then some (.bool true) else g ρ
  | _ => none
def dNotV (f : DE) : DE := fun ρ => (f ρ).bind fun x => match x with
  | .bool c => some (.bool (!c))
  | _ => none
def dIf (c : DT) (f g : DE) : DE := fun ρ => (c ρ).bind fun b => if b = true then f ρ else g ρ
def dNil : DA := fun _ => some []
def dCons (f : DE) (g : DA) : DA := fun ρ => (f ρ).bind fun x => (g ρ).bind fun xs => some (x :: xs)
def dL (f : DA) : DE := fun ρ => (f ρ).map .list
def dTup (f : DA) : DE := fun ρ => (f ρ).map .tuple
def dCall (h : List WData → Option WData) (f : DA) : DE := fun ρ => (f ρ).bind h
def fLen : List WData → Option WData
  | [.list ds] => some (.int ds.length)
  | [.tuple ds] => some (.int ds.length)
  | _ => none
inductive Out where
  | nx (ρ : Rho)
  | rt (d : WData)
  | bk (ρ : Rho)
  | ct (ρ : Rho)
abbrev DS := Rho → Option Out
def sNil : DS := fun ρ => some (.nx ρ)
def sBreak : DS := fun ρ => some (.bk ρ)
def sCont : DS := fun ρ => some (.ct ρ)
def sSeq (f g : DS) : DS := fun ρ => match f ρ with
  | some (.nx ρ') => g ρ'
  | o => o
def sRet (f : DE) : DS := fun ρ => (f ρ).map .rt
def sRetN : DS := fun _ => some (.rt .none)
def sIf (c : DT) (f g : DS) : DS := fun ρ => (c ρ).bind fun b => if b = true then f ρ else g ρ
def sSet (i : Nat) (f : DE) : DS := fun ρ => (f ρ).map fun d => .nx (ρ.set i (some (.val d)))
def sOwn (i : Nat) (f : DA) : DS := fun ρ => (f ρ).map fun ds => .nx (ρ.set i (some (.own ds)))
def sPut (i : Nat) (fi f : DE) : DS := fun ρ => match ρ[i]? with
  | some (some (.own ds)) => (f ρ).bind fun d => (fi ρ).bind fun j => match j with
    | .int z => (ixN ds.length z).map fun m => .nx (ρ.set i (some (.own (ds.set m d))))
    | _ => none
  | _ => none
def sAug (i : Nat) (g : Int → Int → Int) (f : DE) : DS := fun ρ => match ρ[i]? with
  | some (some (.val (.int a))) => (f ρ).bind fun d => match d with
    | .int b => some (.nx (ρ.set i (some (.val (.int (g a b))))))
    | _ => none
  | _ => none
def loop (i : Nat) (f : DS) : List WData → DS
  | [], ρ => some (.nx ρ)
  | d :: ds, ρ => match f (ρ.set i (some (.val d))) with
    | some (.nx ρ') => loop i f ds ρ'
    | some (.ct ρ') => loop i f ds ρ'
    | some (.bk ρ') => some (.nx ρ')
    | some (.rt v) => some (.rt v)
    | none => none
def sFor (i : Nat) (fl : DE) (f : DS) : DS := fun ρ => match fl ρ with
  | some (.list ds) => loop i f ds ρ
  | _ => none
def sForT (i : Nat) (fl : DE) (f : DS) : DS := fun ρ => match fl ρ with
  | some (.tuple ds) => loop i f ds ρ
  | _ => none
def rng (lo : Int) (n : Nat) : List WData := (List.range n).map fun k => .int (lo + (k : Nat))
def c62 (j : Int) : Bool := yes (-(2 ^ 62) ≤ j ∧ j < 2 ^ 62)
def sForR (i : Nat) (fa : DA) (f : DS) : DS := fun ρ => match fa ρ with
  | some [.int j] => if c62 j = true then loop i f (rng 0 j.toNat) ρ else none
  | some [.int l, .int j] => if (c62 l && c62 j) = true then loop i f (rng l (j - l).toNat) ρ else none
  | _ => none
def lcGo (i : Nat) (ρ : Rho) (c : DT) (f : DE) : List WData → Option (List WData)
  | [] => some []
  | d :: ds => (c (ρ.set i (some (.val d)))).bind fun b => if b = true then (f (ρ.set i (some (.val d)))).bind fun y => (lcGo i ρ c f ds).map (y :: ·) else lcGo i ρ c f ds
def dLc (i : Nat) (vs : List Nat) (fl : DE) (c : DT) (f : DE) : DA := fun ρ => match fl ρ with
  | some (.list ds) => if yes (ds.length < 16777216) = true then lcGo i (wipeR ρ vs) c f ds else none
  | _ => none
def dYes : DT := fun _ => some true
def dLcR (i : Nat) (vs : List Nat) (fa : DA) (c : DT) (f : DE) : DA := fun ρ => match fa ρ with
  | some [.int j] => if (c62 j && yes (j < 16777216)) = true then lcGo i (wipeR ρ vs) c f (rng 0 j.toNat) else none
  | some [.int l, .int j] => if (c62 l && (c62 j && yes (j - l < 16777216))) = true then lcGo i (wipeR ρ vs) c f (rng l (j - l).toNat) else none
  | _ => none
def dCat (f g : DE) : DA := fun ρ => (f ρ).bind fun x => (g ρ).bind fun y => match x, y with
  | .list a, .list b => if yes (a.length + b.length ≤ 16777216) = true then some (a ++ b) else none
  | _, _ => none
def initR (N : Nat) (ds : List WData) : Rho := ds.map (fun d => some (.val d)) ++ List.replicate (N - ds.length) none
def body (N : Nat) (f : DS) : List WData → Option WData := fun ds => match f (initR N ds) with
  | some (.rt d) => some d
  | some (.nx _) => some .none
  | _ => none
theorem intsOf_ints : ∀ ns : List Int, intsOf (ns.map .int) = some ns
  | [] => rfl
  | n :: r => by
    show (intsOf (r.map .int)).map (n :: ·) = _
    rw [intsOf_ints r]
    rfl
theorem cMul_l {i j : Int} (h1 : -18446744073709551616 < i) (h2 : i < 18446744073709551616) : cMul i j = true := by
  unfold cMul
  exact yes_of (.inl ⟨h1, h2⟩)
theorem cMul_r {i j : Int} (h1 : -18446744073709551616 < j) (h2 : j < 18446744073709551616) : cMul i j = true := by
  unfold cMul
  exact yes_of (.inr ⟨h1, h2⟩)
theorem cDiv_p {i j : Int} (h : 0 < j) (h2 : j < 1073741824) : cDiv i j = true := yes_of ⟨h, h2⟩
theorem c62_of {j : Int} (h : -4611686018427387904 ≤ j) (h2 : j < 4611686018427387904) : c62 j = true := yes_of ⟨h, h2⟩
theorem hAdd_ii (i j : Int) : hAdd (.int i) (.int j) = some (.int (i + j)) := by unfold hAdd hI; rfl
theorem hSub_ii (i j : Int) : hSub (.int i) (.int j) = some (.int (i - j)) := by unfold hSub hI; rfl
theorem hMul_ii {i j : Int} (h : cMul i j = true) : hMul (.int i) (.int j) = some (.int (i * j)) := by
  show (if cMul i j = true then some (WData.int (i * j)) else none) = _
  rw [if_pos h]
theorem hMod_ii {i j : Int} (h : 0 < j) : hMod (.int i) (.int j) = some (.int (i % j)) := by
  show (if cMod i j = true then some (WData.int (i % j)) else none) = _
  rw [if_pos (show cMod i j = true from yes_of h)]
theorem hDiv_ii {i j : Int} (h : 0 < j) (h2 : j < 1073741824) : hDiv (.int i) (.int j) = some (.int (i / j)) := by
  show (if cDiv i j = true then some (WData.int (i / j)) else none) = _
  rw [if_pos (cDiv_p h h2)]
theorem hLt_ii (i j : Int) : hLt (.int i) (.int j) = some (.bool (decide (i < j))) := by unfold hLt hI; rfl
theorem hLe_ii (i j : Int) : hLe (.int i) (.int j) = some (.bool (decide (i ≤ j))) := by unfold hLe hI; rfl
theorem hGt_ii (i j : Int) : hGt (.int i) (.int j) = some (.bool (decide (j < i))) := by unfold hGt hI; rfl
theorem hGe_ii (i j : Int) : hGe (.int i) (.int j) = some (.bool (decide (j ≤ i))) := by unfold hGe hI; rfl
theorem hEq_ii (i j : Int) : hEq (.int i) (.int j) = some (.bool (decide (i = j))) := by unfold hEq hI; rfl
theorem hNe_ii (i j : Int) : hNe (.int i) (.int j) = some (.bool (!decide (i = j))) := by unfold hNe hI; rfl
theorem hIx_l (ds : List WData) (i : Int) : hIx (.list ds) (.int i) = atI ds i := by unfold hIx; rfl
theorem hIx_t (ds : List WData) (i : Int) : hIx (.tuple ds) (.int i) = atI ds i := by unfold hIx; rfl
theorem at_ints {ns : List Int} {i : Nat} {n : Int} (h : ns[i]? = some n) : atI (ns.map WData.int) (i : Int) = some (.int n) := by
  unfold atI ixN
  have hi : i < ns.length := (List.getElem?_eq_some_iff.mp h).1
  rw [if_pos (by omega), if_pos (by rw [List.length_map]; omega)]
  simp [h]
theorem atc_0 (a : WData) (l : List WData) : atI (a :: l) 0 = some a := by
  unfold atI ixN
  rw [if_pos (by omega), if_pos (by simp)]
  simp
theorem atc_s {a : WData} {l : List WData} {i j : Int} (h : 0 ≤ j) (e : i = j + 1) : atI (a :: l) i = atI l j := by
  unfold atI ixN
  subst e
  rw [if_pos (by omega), if_pos h]
  by_cases h2 : j < l.length
  · rw [if_pos (by rw [List.length_cons]; omega), if_pos h2]
    have : (j + 1).toNat = j.toNat + 1 := by omega
    rw [Option.bind_some, Option.bind_some, this, List.getElem?_cons_succ]
  · rw [if_neg (by rw [List.length_cons]; omega), if_neg h2]
    rfl
theorem atc_1 (a b : WData) (l : List WData) : atI (a :: b :: l) 1 = some b := by rw [atc_s (j := 0) (by omega) (by omega), atc_0]
theorem atc_2 (a b d : WData) (l : List WData) : atI (a :: b :: d :: l) 2 = some d := by rw [atc_s (j := 1) (by omega) (by omega), atc_1]
theorem atc_3 (a b d e : WData) (l : List WData) : atI (a :: b :: d :: e :: l) 3 = some e := by rw [atc_s (j := 2) (by omega) (by omega), atc_2]
theorem atc_4 (a b d e f : WData) (l : List WData) : atI (a :: b :: d :: e :: f :: l) 4 = some f := by rw [atc_s (j := 3) (by omega) (by omega), atc_3]
theorem atc_5 (a b d e f g : WData) (l : List WData) : atI (a :: b :: d :: e :: f :: g :: l) 5 = some g := by rw [atc_s (j := 4) (by omega) (by omega), atc_4]
theorem atc_6 (a b d e f g h : WData) (l : List WData) : atI (a :: b :: d :: e :: f :: g :: h :: l) 6 = some h := by rw [atc_s (j := 5) (by omega) (by omega), atc_5]
theorem atc_7 (a b d e f g h i : WData) (l : List WData) : atI (a :: b :: d :: e :: f :: g :: h :: i :: l) 7 = some i := by rw [atc_s (j := 6) (by omega) (by omega), atc_6]
theorem atc_8 (a b d e f g h i j : WData) (l : List WData) : atI (a :: b :: d :: e :: f :: g :: h :: i :: j :: l) 8 = some j := by rw [atc_s (j := 7) (by omega) (by omega), atc_7]
theorem hInT (neg : Bool) (i : Int) (ns : List Int) : hIn neg (.int i) (.tuple (ns.map .int)) = some (.bool (if neg then !decide (i ∈ ns) else decide (i ∈ ns))) := by
  show (intsOf (ns.map .int)).map _ = _
  rw [intsOf_ints]; rfl
theorem hInL (neg : Bool) (i : Int) (ns : List Int) : hIn neg (.int i) (.list (ns.map .int)) = some (.bool (if neg then !decide (i ∈ ns) else decide (i ∈ ns))) := by
  show (intsOf (ns.map .int)).map _ = _
  rw [intsOf_ints]; rfl
def cat2 (x y : WData) : Option (List WData) := match x, y with
  | .list a, .list b => if yes (a.length + b.length ≤ 16777216) = true then some (a ++ b) else none
  | _, _ => none
theorem dCat_eq (f g : DE) (ρ : Rho) : dCat f g ρ = (f ρ).bind fun x => (g ρ).bind fun y => cat2 x y := rfl
theorem cat2_ll {a b : List WData} (h : a.length + b.length ≤ 16777216) : cat2 (.list a) (.list b) = some (a ++ b) := if_pos (yes_of h)
def lcL (i : Nat) (ρ : Rho) (c : DT) (f : DE) (x : WData) : Option (List WData) := match x with
  | .list ds => if yes (ds.length < 16777216) = true then lcGo i ρ c f ds else none
  | _ => none
theorem lcL_l {i : Nat} {ρ : Rho} {c : DT} {f : DE} {ds : List WData} (h : ds.length < 16777216) : lcL i ρ c f (.list ds) = lcGo i ρ c f ds := if_pos (yes_of h)
theorem dLc_eq (i : Nat) (vs : List Nat) (fl : DE) (c : DT) (f : DE) (ρ : Rho) : dLc i vs fl c f ρ = (fl ρ).bind (lcL i (wipeR ρ vs) c f) := by
  unfold dLc
  cases fl ρ with
  | none => rfl
  | some x => cases x <;> rfl
def rgs : List WData → Option (List WData)
  | [.int j] => if c62 j = true then some (rng 0 j.toNat) else none
  | [.int l, .int j] => if (c62 l && c62 j) = true then some (rng l (j - l).toNat) else none
  | _ => none
theorem rgs_1 {j : Int} (h0 : -4611686018427387904 ≤ j) (h : j < 4611686018427387904) : rgs [.int j] = some (rng 0 j.toNat) := if_pos (c62_of h0 h)
theorem rgs_2 {l j : Int} (h0 : -4611686018427387904 ≤ l) (h : l < 4611686018427387904) (h1 : -4611686018427387904 ≤ j) (h2 : j < 4611686018427387904) : rgs [.int l, .int j] = some (rng l (j - l).toNat) := if_pos (by rw [c62_of h0 h, c62_of h1 h2]; rfl)
theorem sForR_eq (i : Nat) (fa : DA) (f : DS) (ρ : Rho) : sForR i fa f ρ = ((fa ρ).bind rgs).bind fun l => loop i f l ρ := by
  unfold sForR
  split
  · rename_i j e
    rw [e]
    show _ = (if c62 j = true then some (rng 0 j.toNat) else none).bind _
    split <;> rfl
  · rename_i l j e
    rw [e]
    show _ = (if (c62 l && c62 j) = true then some (rng l (j - l).toNat) else none).bind _
    split <;> rfl
  · rename_i h1 h2
    cases e : fa ρ with
    | none => rfl
    | some ds =>
      rw [Option.bind_some]
      unfold rgs
      split
      · rename_i j
        exact (h1 j e).elim
      · rename_i l j
        exact (h2 l j e).elim
      · rfl
end Dn
end
end
section
set_option Elab.async false
set_option linter.all false
set_option maxRecDepth 100000
set_option maxHeartbeats 1000000
namespace Dn
open PySem PySem.Spec L2
open PySem.W (WData Codec)
def off (P : List Addr) (H : Hp) : Hp := fun b => if b ∈ P then none else H b
theorem off_in {P : List Addr} {H : Hp} {b : Addr} {o : HO} : off P H b = some o ↔ b ∉ P ∧ H b = some o := by
  unfold off
  by_cases h : b ∈ P <;> simp [h]
theorem off_same {P : List Addr} {H H' : Hp} (s : Same H H') : Same (off P H) (off P H') := fun b o e => by
  rw [off_in] at *
  exact ⟨e.1, s b o e.2⟩
theorem off_sub {P : List Addr} {H : Hp} : Same (off P H) H := fun b o e => (off_in.mp e).2
theorem off_mono {P P' : List Addr} {H : Hp} (h : ∀ p ∈ P, p ∈ P') : Same (off P' H) (off P H) := fun b o e => by
  rw [off_in] at *
  exact ⟨fun q => e.1 (h b q), e.2⟩
theorem off_nil {H : Hp} : off [] H = H := by
  funext b
  simp [off]
theorem sm_refl (H : Hp) : Same H H := fun _ _ h => h
theorem rd_same {H H' : Hp} {a : Addr} {u : HO} (s : Same H H') (h : Rd H a u) : Rd H' a u := by
  rcases h with h | ⟨o, h⟩
  · exact .inl (s _ _ h)
  · exact .inr ⟨o, s _ _ h⟩
theorem sqL_same {K : PySem.W.Frag} {H H' : Hp} {a : Addr} {xs : List V} (s : Same H H') (h : SqL K H a xs) : SqL K H' a xs := by
  rcases h with h | h
  · exact .inl (rd_same s h)
  · exact .inr h
theorem sqT_same {K : PySem.W.Frag} {H H' : Hp} {a : Addr} {xs : List V} (s : Same H H') (h : SqT K H a xs) : SqT K H' a xs := by
  rcases h with h | h
  · exact .inl (rd_same s h)
  · exact .inr h
mutual
theorem dw_same {K : PySem.W.Frag} {H H' : Hp} (s : Same H H') : ∀ {v : V} {d : WData}, Dw K H v d → Dw K H' v d
  | _, _, .non => .non
  | _, _, .bl b => .bl b
  | _, _, .int i => .int i
  | _, _, .str x => .str x
  | _, _, .byt b => .byt b
  | _, _, .lst h a => .lst (sqL_same s h) (dwa_same s a)
  | _, _, .tup h a => .tup (sqT_same s h) (dwa_same s a)
theorem dwa_same {K : PySem.W.Frag} {H H' : Hp} (s : Same H H') : ∀ {vs : List V} {ds : List WData}, DwAll K H vs ds → DwAll K H' vs ds
  | _, _, .nil => .nil
  | _, _, .cons h a => .cons (dw_same s h) (dwa_same s a)
end
theorem dwa_len {K : PySem.W.Frag} {H : Hp} : ∀ {vs : List V} {ds : List WData}, DwAll K H vs ds → vs.length = ds.length
  | _, _, .nil => rfl
  | _, _, .cons h a => by simp [dwa_len a]
theorem dwa_get {K : PySem.W.Frag} {H : Hp} : ∀ {vs : List V} {ds : List WData} (i : Nat) {d : WData}, DwAll K H vs ds → ds[i]? = some d → ∃ v, vs[i]? = some v ∧ Dw K H v d
  | _, _, _, _, .nil, e => by simp at e
  | _, _, 0, d, .cons (v := v) h a, e => by
    simp at e
    subst e
    exact ⟨v, rfl, h⟩
  | _, _, i + 1, d, .cons h a, e => by
    simp at e ⊢
    exact dwa_get i a e
theorem dwa_app {K : PySem.W.Frag} {H : Hp} : ∀ {vs : List V} {ds : List WData} {us : List V} {es : List WData}, DwAll K H vs ds → DwAll K H us es → DwAll K H (vs ++ us) (ds ++ es)
  | _, _, _, _, .nil, b => b
  | _, _, _, _, .cons h a, b => .cons h (dwa_app a b)
theorem dwa_drop {K : PySem.W.Frag} {H : Hp} : ∀ {vs : List V} {ds : List WData} (n : Nat), DwAll K H vs ds → DwAll K H (vs.drop n) (ds.drop n)
  | _, _, 0, a => by simpa using a
  | _, _, n + 1, .nil => by simp; exact .nil
  | _, _, n + 1, .cons _ a => by simpa using dwa_drop n a
theorem dwa_take {K : PySem.W.Frag} {H : Hp} : ∀ {vs : List V} {ds : List WData} (n : Nat), DwAll K H vs ds → DwAll K H (vs.take n) (ds.take n)
  | _, _, 0, a => by simp; exact .nil
  | _, _, n + 1, .nil => by simp; exact .nil
  | _, _, n + 1, .cons h a => by simp; exact .cons h (dwa_take n a)
theorem dw_int {K : PySem.W.Frag} {H : Hp} {v : V} {i : Int} (h : Dw K H v (.int i)) : v = .int i := by
  cases h
  rfl
theorem dw_bl {K : PySem.W.Frag} {H : Hp} {v : V} {i : Bool} (h : Dw K H v (.bool i)) : v = .bl i := by
  cases h
  rfl
theorem dw_lst {K : PySem.W.Frag} {H : Hp} {v : V} {ds : List WData} (h : Dw K H v (.list ds)) : ∃ a xs, v = .ref a ∧ SqL K H a xs ∧ DwAll K H xs ds := by
  cases h with
  | lst h a => exact ⟨_, _, rfl, h, a⟩
theorem dw_tup {K : PySem.W.Frag} {H : Hp} {v : V} {ds : List WData} (h : Dw K H v (.tuple ds)) : ∃ a xs, v = .ref a ∧ SqT K H a xs ∧ DwAll K H xs ds := by
  cases h with
  | tup h a => exact ⟨_, _, rfl, h, a⟩
theorem upd_new {H H1 : Hp} {p : Addr} {o : HO} (s : Same H H1) (h : H1 p = none) : Same H (upd H1 p o) := fun b u e => by
  rw [upd_ne (ne_of_none (s b u e) h)]
  exact s b u e
theorem off_new {P : List Addr} {H : Hp} {p : Addr} {o : HO} (h : H p = none) : Same (off P H) (off (p :: P) (upd H p o)) := fun b u e => by
  rw [off_in] at *
  have hb := ne_of_none e.2 h
  refine ⟨fun q => ?_, by rw [upd_ne hb]; exact e.2⟩
  rcases List.mem_cons.mp q with q | q
  · exact hb q
  · exact e.1 q
theorem off_upd {P : List Addr} {H : Hp} {p : Addr} {o : HO} (h : p ∈ P) : off P (upd H p o) = off P H := by
  funext b
  unfold off
  by_cases q : b ∈ P
  · simp [q]
  · simp [q]
    exact upd_ne fun z => q (z ▸ h)
structure RelP (K : PySem.W.Frag) (H0 : Hp) (P0 P : List Addr) (H : Hp) (σ : St) (ρ : Rho) : Prop where
  sub : ∀ p ∈ P0, p ∈ P
  al : ∀ p ∈ P, H p ≠ none
  new : ∀ p ∈ P, p ∈ P0 ∨ H0 p = none
  sm : Same H0 H
  val : ∀ (i : Nat) (d : WData), ρ[i]? = some (some (Sl.val d)) → ∃ v, σ[i]? = some (some v) ∧ Dw K (off P H) v d
  own : ∀ (i : Nat) (ds : List WData), ρ[i]? = some (some (Sl.own ds)) → ∃ p xs, σ[i]? = some (some (.ref p)) ∧ p ∈ P ∧ p ∉ P0 ∧ H p = some (.lst xs) ∧ DwAll K (off P H) xs ds
  dis : ∀ (i j : Nat) (ds es : List WData) (p : Addr), ρ[i]? = some (some (Sl.own ds)) → ρ[j]? = some (some (Sl.own es)) → σ[i]? = some (some (.ref p)) → σ[j]? = some (some (.ref p)) → i = j
  len : σ.length = ρ.length
def Rel (K : PySem.W.Frag) (H0 : Hp) (P0 : List Addr) (H : Hp) (σ : St) (ρ : Rho) : Prop := ∃ P, RelP K H0 P0 P H σ ρ
section
variable {K : PySem.W.Frag} {H0 : Hp} {P0 P : List Addr} {H H' : Hp} {σ : St} {ρ : Rho}
theorem al_same (h : ∀ p ∈ P, H p ≠ none) (s : Same H H') : ∀ p ∈ P, H' p ≠ none := fun p hp z => by
  cases e : H p with
  | none => exact h p hp e
  | some o =>
    rw [s p o e] at z
    cases z
theorem RelP.same (R : RelP K H0 P0 P H σ ρ) (s : Same H H') : RelP K H0 P0 P H' σ ρ where
  sub := R.sub
  al := al_same R.al s
  new := R.new
  sm := R.sm.trans s
  val := fun i d e => let ⟨v, a, b⟩ := R.val i d e; ⟨v, a, dw_same (off_same s) b⟩
  own := fun i ds e => let ⟨p, xs, a, b, c, d, f⟩ := R.own i ds e; ⟨p, xs, a, b, c, s _ _ d, dwa_same (off_same s) f⟩
  dis := R.dis
  len := R.len
theorem fresh_P (al : ∀ p ∈ P, H p ≠ none) {p : Addr} (h : H p = none) : p ∉ P := fun q => al p q h
theorem RelP.setVal (R : RelP K H0 P0 P H σ ρ) (i : Nat) {v : V} {d : WData} (h : Dw K (off P H) v d) : RelP K H0 P0 P H (σ.set i (some v)) (ρ.set i (some (.val d))) where
  sub := R.sub
  al := R.al
  new := R.new
  sm := R.sm
  val := fun j e q => by
    by_cases hj : i = j
    · subst hj
      have hl : i < ρ.length := by
        have := (List.getElem?_eq_some_iff.mp q).1
        simpa using this
      rw [List.getElem?_set_self hl] at q
      cases q
      exact ⟨v, List.getElem?_set_self (by rw [R.len]; exact hl), h⟩
    · rw [List.getElem?_set_ne hj] at q ⊢
      exact R.val j e q
  own := fun j ds q => by
    by_cases hj : i = j
    · subst hj
      have hl : i < ρ.length := by
        have := (List.getElem?_eq_some_iff.mp q).1
        simpa using this
      rw [List.getElem?_set_self hl] at q
      cases q
    · rw [List.getElem?_set_ne hj] at q ⊢
      exact R.own j ds q
  dis := fun j k ds es p q1 q2 e1 e2 => by
    have a : ∀ {j : Nat} {ds : List WData}, (ρ.set i (some (Sl.val d)))[j]? = some (some (Sl.own ds)) → i ≠ j := fun {j ds} q hj => by
      subst hj
      have hl : i < ρ.length := by
        have := (List.getElem?_eq_some_iff.mp q).1
        simpa using this
      rw [List.getElem?_set_self hl] at q
      cases q
    have a1 := a q1
    have a2 := a q2
    rw [List.getElem?_set_ne a1] at q1 e1
    rw [List.getElem?_set_ne a2] at q2 e2
    exact R.dis j k ds es p q1 q2 e1 e2
  len := by simp [R.len]
theorem RelP.wipe1 (R : RelP K H0 P0 P H σ ρ) (i : Nat) : RelP K H0 P0 P H (σ.set i none) (ρ.set i none) := by
  have at_i : ∀ {j : Nat} {z : Sl}, (ρ.set i none)[j]? = some (some z) → i ≠ j ∧ ρ[j]? = some (some z) := fun {j z} q => by
    by_cases hj : i = j
    · subst hj
      have hl : i < ρ.length := by
        have := (List.getElem?_eq_some_iff.mp q).1
        simpa using this
      rw [List.getElem?_set_self hl] at q
      cases q
    · rw [List.getElem?_set_ne hj] at q
      exact ⟨hj, q⟩
  refine ⟨R.sub, R.al, R.new, R.sm, ?_, ?_, ?_, by simp [R.len]⟩
  · intro j d q
    obtain ⟨hj, q⟩ := at_i q
    rw [List.getElem?_set_ne hj]
    exact R.val j d q
  · intro j d q
    obtain ⟨hj, q⟩ := at_i q
    rw [List.getElem?_set_ne hj]
    exact R.own j d q
  · intro j k as bs r q1 q2 e1 e2
    obtain ⟨h1, q1⟩ := at_i q1
    obtain ⟨h2, q2⟩ := at_i q2
    rw [List.getElem?_set_ne h1] at e1
    rw [List.getElem?_set_ne h2] at e2
    exact R.dis j k as bs r q1 q2 e1 e2
theorem RelP.wipe (R : RelP K H0 P0 P H σ ρ) : ∀ vs : List Nat, RelP K H0 P0 P H (L2.wipe σ vs) (wipeR ρ vs)
  | [] => R
  | v :: vs => (R.wipe vs).wipe1 v
theorem RelP.freeze (R : RelP K H0 P0 P H σ ρ) (i : Nat) : Rel K H0 P0 H σ (freeze i ρ) := by
  unfold Dn.freeze
  split
  · rename_i ds hi
    obtain ⟨p, xs, hs, hp, hp0, hx, ha⟩ := R.own i ds hi
    have hl : i < ρ.length := (List.getElem?_eq_some_iff.mp hi).1
    have m : ∀ {q : Addr}, q ∈ P.filter (fun q => decide (q ≠ p)) ↔ q ∈ P ∧ q ≠ p := by
      intro q
      simp
    have mo : Same (off P H) (off (P.filter (fun q => decide (q ≠ p))) H) := off_mono fun q hq => (m.mp hq).1
    have at_i : ∀ {j : Nat} {z : Sl}, (ρ.set i (some (Sl.val (.list ds))))[j]? = some (some z) → (i = j ∧ z = .val (.list ds)) ∨ (i ≠ j ∧ ρ[j]? = some (some z)) := fun {j z} q => by
      by_cases hj : i = j
      · subst hj
        rw [List.getElem?_set_self hl] at q
        cases q
        exact .inl ⟨rfl, rfl⟩
      · rw [List.getElem?_set_ne hj] at q
        exact .inr ⟨hj, q⟩
    refine ⟨P.filter (fun q => decide (q ≠ p)), fun q hq => m.mpr ⟨R.sub q hq, fun z => hp0 (z ▸ hq)⟩, fun q hq => R.al q (m.mp hq).1, fun q hq => R.new q (m.mp hq).1, R.sm, ?_, ?_, ?_, by simp [R.len]⟩
    · intro j d q
      rcases at_i q with ⟨z, z2⟩ | ⟨hj, q⟩
      · subst z
        cases z2
        exact ⟨_, hs, .lst (SqL.of (off_in.mpr ⟨fun z => (m.mp z).2 rfl, hx⟩)) (dwa_same mo ha)⟩
      · obtain ⟨v, a, b⟩ := R.val j d q
        exact ⟨v, a, dw_same mo b⟩
    · intro j es q
      rcases at_i q with ⟨z, z2⟩ | ⟨hj, q⟩
      · cases z2
      · obtain ⟨r, zs, a, b, c, d, f⟩ := R.own j es q
        refine ⟨r, zs, a, m.mpr ⟨b, fun z => ?_⟩, c, d, dwa_same mo f⟩
        subst z
        exact hj (R.dis i j _ _ _ hi q hs a)
    · intro j k as bs r q1 q2 e1 e2
      rcases at_i q1 with ⟨_, z⟩ | ⟨_, q1⟩
      · cases z
      rcases at_i q2 with ⟨_, z⟩ | ⟨_, q2⟩
      · cases z
      exact R.dis j k as bs r q1 q2 e1 e2
  · exact ⟨P, R⟩
def here (P0 P : List Addr) (H : Hp) : Hp := fun b => if b ∈ P ∧ b ∉ P0 then none else H b
theorem here_in {P0 P : List Addr} {H : Hp} {b : Addr} {o : HO} : here P0 P H b = some o ↔ ¬ (b ∈ P ∧ b ∉ P0) ∧ H b = some o := by
  unfold here
  split
  · rename_i h
    simp [h]
  · rename_i h
    exact ⟨fun e => ⟨h, e⟩, fun e => e.2⟩
theorem RelP.here (R : RelP K H0 P0 P H σ ρ) : RelP K (here P0 P H) P0 P H σ ρ := ⟨R.sub, R.al, fun p hp => by
    by_cases q : p ∈ P0
    · exact .inl q
    · refine .inr ?_
      unfold Dn.here
      rw [if_pos ⟨hp, q⟩], fun b o e => (here_in.mp e).2, R.val, R.own, R.dis, R.len⟩
theorem RelP.hereSame (R : RelP K H0 P0 P H σ ρ) : Same H0 (Dn.here P0 P H) := fun b o e => by
  refine here_in.mpr ⟨fun h => ?_, R.sm b o e⟩
  rcases R.new b h.1 with z | z
  · exact h.2 z
  · rw [z] at e
    cases e
theorem Rel.back {H1 : Hp} (s : Same H0 H1) (R : Rel K H1 P0 H σ ρ) : Rel K H0 P0 H σ ρ := by
  obtain ⟨P, R⟩ := R
  exact ⟨P, R.sub, R.al, fun p hp => (R.new p hp).imp id fun z => s.free z, s.trans R.sm, R.val, R.own, R.dis, R.len⟩
theorem RelP.keep (R : RelP K H0 P0 P H σ ρ) : Same (off P0 H0) (off P H) := fun b o e => by
  rw [off_in] at *
  refine ⟨fun q => ?_, R.sm b o e.2⟩
  rcases R.new b q with z | z
  · exact e.1 z
  · rw [z] at e
    cases e.2
theorem off_here {P0 P : List Addr} {H : Hp} (h : ∀ p ∈ P0, p ∈ P) : Same (off P H) (off P0 (Dn.here P0 P H)) := fun b o e => by
  rw [off_in] at *
  exact ⟨fun q => e.1 (h b q), here_in.mpr ⟨fun z => e.1 z.1, e.2⟩⟩
end
end Dn
end
section
set_option Elab.async false
set_option linter.all false
set_option maxRecDepth 100000
set_option maxHeartbeats 1000000
namespace Dn
open PySem PySem.Spec L2
open PySem.W (WData Codec)
def RE (K : PySem.W.Frag) (te : TE) (f : DE) : Prop := ∀ (H0 : Hp) (P0 P : List Addr) (H : Hp) (σ : St) (ρ : Rho) (d : WData) (Q : VK), RelP K H0 P0 P H σ ρ → f ρ = some d → (∀ v H', Same H H' → Dw K (off P H') v d → Q v H') → te σ H Q
def RT (K : PySem.W.Frag) (tt : TT) (f : DT) : Prop := ∀ (H0 : Hp) (P0 P : List Addr) (H : Hp) (σ : St) (ρ : Rho) (d : Bool) (Q : Bool → Hp → Prop), RelP K H0 P0 P H σ ρ → f ρ = some d → (∀ H', Same H H' → Q d H') → tt σ H Q
def RA (K : PySem.W.Frag) (n : Nat) (ta : TA) (f : DA) : Prop := ∀ (H0 : Hp) (P0 P : List Addr) (H : Hp) (σ : St) (ρ : Rho) (d : List WData) (Q : List V → Hp → Prop), RelP K H0 P0 P H σ ρ → f ρ = some d → (∀ vs H', Same H H' → DwAll K (off P H') vs d → vs.length = n → Q vs H') → ta σ H Q
def RF (K : PySem.W.Frag) (te : TE) (f : DA) : Prop := ∀ (H0 : Hp) (P0 P : List Addr) (H : Hp) (σ : St) (ρ : Rho) (ds : List WData) (Q : VK), RelP K H0 P0 P H σ ρ → f ρ = some ds →
  (∀ p xs H', H p = none → Same H H' → H' p = some (.lst xs) → DwAll K (off (p :: P) H') xs ds → Q (.ref p) H') → te σ H Q
def RO (K : PySem.W.Frag) (r : R2) (h : WData → WData → Option WData) : Prop := ∀ (P : List Addr) (H : Hp) (x y : V) (dx dy d : WData) (Q : VK), (∀ p ∈ P, H p ≠ none) → Dw K (off P H) x dx → Dw K (off P H) y dy → h dx dy = some d →
  (∀ v H', Same H H' → Dw K (off P H') v d → Q v H') → r x y H Q
def RC (K : PySem.W.Frag) (r : List V → Hp → VK → Prop) (h : List WData → Option WData) : Prop := ∀ (P : List Addr) (H : Hp) (xs : List V) (ds : List WData) (d : WData) (Q : VK), (∀ p ∈ P, H p ≠ none) → DwAll K (off P H) xs ds → h ds = some d →
  (∀ v H', Same H H' → Dw K (off P H') v d → Q v H') → r xs H Q
section
variable {K : PySem.W.Frag}
theorem re_var (i : Nat) : RE K (tVar i) (dVar i) := by
  intro H0 P0 P H σ ρ d Q R h k
  unfold dVar at h
  split at h
  · rename_i d' e
    cases h
    obtain ⟨v, e1, e2⟩ := R.val i d e
    exact ⟨v, e1, k v H (sm_refl H) e2⟩
  · cases h
theorem re_c {v : V} {d : WData} (h : ∀ H, Dw K H v d) : RE K (tC v) (dC d) := by
  intro H0 P0 P H σ ρ d' Q R e k
  cases e
  exact k v H (sm_refl H) (h _)
theorem re_int (i : Int) : RE K (tC (.int i)) (dC (.int i)) := re_c fun _ => .int i
theorem re_op {r : R2} {ta tb : TE} {h : WData → WData → Option WData} {f g : DE} (hr : RO K r h) (ha : RE K ta f) (hb : RE K tb g) : RE K (tOp r ta tb) (dOp h f g) := by
  intro H0 P0 P H σ ρ d Q R e k
  unfold dOp at e
  obtain ⟨x, e1, e⟩ := Option.bind_eq_some_iff.mp e
  obtain ⟨y, e2, e⟩ := Option.bind_eq_some_iff.mp e
  refine ha _ _ _ _ _ _ _ _ R e1 fun v H1 s1 d1 => ?_
  refine hb _ _ _ _ _ _ _ _ (R.same s1) e2 fun w H2 s2 d2 => ?_
  exact hr P H2 v w x y d Q (al_same R.al (s1.trans s2)) (dw_same (off_same s2) d1) d2 e fun z H3 s3 d3 => k z H3 ((s1.trans s2).trans s3) d3
theorem hI_some {g : Int → Int → Option WData} {x y d : WData} (h : hI g x y = some d) : ∃ i j, x = .int i ∧ y = .int j ∧ g i j = some d := by
  unfold hI at h
  split at h
  · exact ⟨_, _, rfl, rfl, h⟩
  · cases h
theorem ro_0 {g : Int → Int → V} {g' : Int → Int → WData} (hg : ∀ i j H, Dw K H (g i j) (g' i j)) : RO K (rI0 g) (hI fun i j => some (g' i j)) := by
  intro P H x y dx dy d Q al d1 d2 e k
  obtain ⟨i, j, rfl, rfl, e⟩ := hI_some e
  cases e
  exact ⟨i, j, dw_int d1, dw_int d2, k _ H (sm_refl H) (hg _ _ _)⟩
theorem ro_c {C : Int → Int → Prop} {D : Int → Int → Bool} (hC : ∀ i j, D i j = true → C i j) {g : Int → Int → V} {g' : Int → Int → WData} (hg : ∀ i j H, Dw K H (g i j) (g' i j)) : RO K (rI C g) (hI fun i j => if D i j = true then some (g' i j) else none) := by
  intro P H x y dx dy d Q al d1 d2 e k
  obtain ⟨i, j, rfl, rfl, e'⟩ := hI_some e
  split at e'
  · rename_i c
    cases e'
    exact ⟨i, j, dw_int d1, dw_int d2, hC i j c, k _ H (sm_refl H) (hg _ _ _)⟩
  · cases e'
theorem ro_add : RO K (rI0 fun i j => .int (i + j)) hAdd := ro_0 fun _ _ _ => .int _
theorem ro_sub : RO K (rI0 fun i j => .int (i - j)) hSub := ro_0 fun _ _ _ => .int _
theorem cMul_ok {i j : Int} (h : cMul i j = true) : CMul i j := by
  unfold cMul at h
  have q := of_yes h
  exact q
theorem cMod_ok {i j : Int} (h : cMod i j = true) : 0 < j := by
  unfold cMod at h
  exact of_yes h
theorem cDiv_ok {i j : Int} (h : cDiv i j = true) : CDiv i j := by
  unfold cDiv at h
  have q := of_yes h
  exact q
theorem ro_mul : RO K (rI CMul fun i j => .int (i * j)) hMul := ro_c (fun _ _ h => cMul_ok h) fun _ _ _ => .int _
theorem ro_mod : RO K (rI (fun _ j => 0 < j) fun i j => .int (i % j)) hMod := ro_c (fun _ _ h => cMod_ok h) fun _ _ _ => .int _
theorem ro_div : RO K (rI CDiv fun i j => .int (i / j)) hDiv := ro_c (fun _ _ h => cDiv_ok h) fun _ _ _ => .int _
theorem ro_eq : RO K rEq hEq := by
  intro P H x y dx dy d Q al d1 d2 e k
  obtain ⟨i, j, rfl, rfl, e⟩ := hI_some e
  cases e
  rw [dw_int d1, dw_int d2]
  refine ⟨rfl, ?_⟩
  have z : decide (V.int i = V.int j) = decide (i = j) := by rw [dec_int]; exact Bool.beq_eq_decide_eq i j
  rw [z]
  exact k _ H (sm_refl H) (.bl _)
theorem ro_ne : RO K rNe hNe := by
  intro P H x y dx dy d Q al d1 d2 e k
  obtain ⟨i, j, rfl, rfl, e⟩ := hI_some e
  cases e
  rw [dw_int d1, dw_int d2]
  refine ⟨rfl, ?_⟩
  have z : decide (V.int i = V.int j) = decide (i = j) := by rw [dec_int]; exact Bool.beq_eq_decide_eq i j
  rw [z]
  exact k _ H (sm_refl H) (.bl _)
theorem re_neg {ta : TE} {f : DE} (ha : RE K ta f) : RE K (tUn (rU fun i => .int (-i)) ta) (dNeg f) := by
  intro H0 P0 P H σ ρ d Q R e k
  obtain ⟨x, e1, e⟩ := Option.bind_eq_some_iff.mp e
  split at e
  · rename_i i
    cases e
    exact ha _ _ _ _ _ _ _ _ R e1 fun v H1 s1 d1 => ⟨i, dw_int d1, k _ H1 s1 (.int _)⟩
  · cases e
theorem intsOf_map : ∀ {ds : List WData} {ns : List Int}, intsOf ds = some ns → ds = ns.map .int
  | [], ns, h => by cases h; rfl
  | .int i :: r, ns, h => by
    unfold intsOf at h
    obtain ⟨ms, h1, rfl⟩ := Option.map_eq_some_iff.mp h
    rw [intsOf_map h1]
    rfl
  | .none :: _, _, h => by cases h
  | .bool _ :: _, _, h => by cases h
  | .str _ :: _, _, h => by cases h
  | .list _ :: _, _, h => by cases h
  | .tuple _ :: _, _, h => by cases h
  | .dict _ :: _, _, h => by cases h
  | .float _ :: _, _, h => by cases h
  | .bytes _ :: _, _, h => by cases h
  | .bytearray _ :: _, _, h => by cases h
  | .set _ :: _, _, h => by cases h
  | .frozenset _ :: _, _, h => by cases h
  | .obj _ _ :: _, _, h => by cases h
theorem inV_ints (i : Int) : ∀ ns : List Int, inV (.int i) (ns.map V.int) = decide (i ∈ ns)
  | [] => by simp [inV]
  | n :: r => by
    have ih := inV_ints i r
    unfold inV at ih ⊢
    rw [List.map_cons, List.any_cons, ih]
    have e : eqV (.int n) (.int i) = decide (i = n) := by
      show (n == i) = decide (i = n)
      rw [Bool.beq_eq_decide_eq]
      exact decide_eq_decide.mpr ⟨Eq.symm, Eq.symm⟩
    rw [e]
    by_cases h : i = n <;> simp [h]
theorem flat_ints (ns : List Int) : (ns.map V.int).all flatV = true := by
  simp [List.all_eq_true, flatV]
theorem ro_in {neg : Bool} : RO K (rIn K neg) (hIn neg) := by
  intro P H x y dx dy d Q al d1 d2 e k
  unfold hIn at e
  split at e
  · rename_i i ds
    obtain ⟨ns, e1, rfl⟩ := Option.map_eq_some_iff.mp e
    obtain ⟨a, xs, rfl, sq, da⟩ := dw_tup d2
    rw [intsOf_map e1] at da
    have ex := ints_dw ns xs da
    subst ex
    rw [dw_int d1]
    refine ⟨a, _, rfl, .inr (sqT_same off_sub sq), rfl, flat_ints ns, ?_⟩
    rw [inV_ints]
    exact k _ H (sm_refl H) (.bl _)
  · rename_i i ds
    obtain ⟨ns, e1, rfl⟩ := Option.map_eq_some_iff.mp e
    obtain ⟨a, xs, rfl, sq, da⟩ := dw_lst d2
    rw [intsOf_map e1] at da
    have ex := ints_dw ns xs da
    subst ex
    rw [dw_int d1]
    refine ⟨a, _, rfl, .inl (sqL_same off_sub sq), rfl, flat_ints ns, ?_⟩
    rw [inV_ints]
    exact k _ H (sm_refl H) (.bl _)
  · cases e
theorem dwa_atI {H : Hp} {xs : List V} {ds : List WData} {i : Int} {d : WData} (a : DwAll K H xs ds) (e : atI ds i = some d) : ∃ v, atI xs i = some v ∧ Dw K H v d := by
  unfold atI at e ⊢
  rw [dwa_len a]
  obtain ⟨j, e1, e2⟩ := Option.bind_eq_some_iff.mp e
  obtain ⟨v, e3, dv⟩ := dwa_get j a e2
  exact ⟨v, by rw [e1]; exact e3, dv⟩
theorem ro_ix : RO K (rIx K) hIx := by
  intro P H x y dx dy d Q al d1 d2 e k
  unfold hIx at e
  split at e
  · rename_i ds i
    obtain ⟨a, xs, rfl, sq, da⟩ := dw_lst d1
    obtain ⟨v, e1, dv⟩ := dwa_atI da e
    exact .inl ⟨a, xs, i, v, rfl, dw_int d2, sqL_same off_sub sq, e1, k v H (sm_refl H) dv⟩
  · rename_i ds i
    obtain ⟨a, xs, rfl, sq, da⟩ := dw_tup d1
    obtain ⟨v, e1, dv⟩ := dwa_atI da e
    exact .inr (.inl ⟨a, xs, i, v, rfl, dw_int d2, sqT_same off_sub sq, e1, k v H (sm_refl H) dv⟩)
  · cases e
theorem rt_test {t : TE} {f : DE} (h : RE K t f) : RT K (tTest t) (dTest f) := by
  intro H0 P0 P H σ ρ d Q R e k
  unfold dTest at e
  split at e
  · rename_i b e1
    cases e
    exact h _ _ _ _ _ _ _ _ R e1 fun v H1 s1 d1 => ⟨d, dw_bl d1, k H1 s1⟩
  · cases e
theorem rt_b {t : TE} {f : DE} (h : RE K t f) : RT K (tB t) (dTest f) := rt_test h
theorem rt_and {t u : TT} {f g : DT} (h1 : RT K t f) (h2 : RT K u g) : RT K (tAnd t u) (dAnd f g) := by
  intro H0 P0 P H σ ρ d Q R e k
  obtain ⟨c, e1, e⟩ := Option.bind_eq_some_iff.mp e
  refine h1 _ _ _ _ _ _ _ _ R e1 fun H1 s1 => ?_
  split
  · rename_i hc
    rw [if_pos hc] at e
    exact h2 _ _ _ _ _ _ _ _ (R.same s1) e fun H2 s2 => k H2 (s1.trans s2)
  · rename_i hc
    rw [if_neg hc] at e
    cases e
    exact k H1 s1
theorem rt_not {t : TT} {f : DT} (h1 : RT K t f) : RT K (tNot t) (dNot f) := by
  intro H0 P0 P H σ ρ d Q R e k
  obtain ⟨c, e1, rfl⟩ := Option.map_eq_some_iff.mp e
  exact h1 _ _ _ _ _ _ _ _ R e1 fun H1 s1 => k H1 s1
theorem re_andV {t u : TE} {f g : DE} (h1 : RE K t f) (h2 : RE K u g) : RE K (tAndV t u) (dAndV f g) := by
  intro H0 P0 P H σ ρ d Q R e k
  obtain ⟨x, e1, e⟩ := Option.bind_eq_some_iff.mp e
  split at e
  · rename_i c
    refine h1 _ _ _ _ _ _ _ _ R e1 fun v H1 s1 d1 => ⟨c, dw_bl d1, ?_⟩
    split
    · rename_i hc
      rw [if_pos hc] at e
      exact h2 _ _ _ _ _ _ _ _ (R.same s1) e fun v H2 s2 d2 => k v H2 (s1.trans s2) d2
    · rename_i hc
      rw [if_neg hc] at e
      cases e
      exact k _ H1 s1 (.bl _)
  · cases e
theorem re_if {t : TT} {ta tb : TE} {c : DT} {f g : DE} (hc : RT K t c) (ha : RE K ta f) (hb : RE K tb g) : RE K (tIf t ta tb) (dIf c f g) := by
  intro H0 P0 P H σ ρ d Q R e k
  obtain ⟨b, e1, e⟩ := Option.bind_eq_some_iff.mp e
  refine hc _ _ _ _ _ _ _ _ R e1 fun H1 s1 => ?_
  split
  · rename_i h
    rw [if_pos h] at e
    exact ha _ _ _ _ _ _ _ _ (R.same s1) e fun v H2 s2 d2 => k v H2 (s1.trans s2) d2
  · rename_i h
    rw [if_neg h] at e
    exact hb _ _ _ _ _ _ _ _ (R.same s1) e fun v H2 s2 d2 => k v H2 (s1.trans s2) d2
theorem ra_nil : RA K 0 tNil dNil := by
  intro H0 P0 P H σ ρ d Q R e k
  cases e
  exact k [] H (sm_refl H) .nil rfl
theorem ra_cons {n : Nat} {ta : TE} {tr : TA} {f : DE} {g : DA} (ha : RE K ta f) (hr : RA K n tr g) : RA K (n + 1) (tCons ta tr) (dCons f g) := by
  intro H0 P0 P H σ ρ d Q R e k
  obtain ⟨x, e1, e⟩ := Option.bind_eq_some_iff.mp e
  obtain ⟨xs, e2, e⟩ := Option.bind_eq_some_iff.mp e
  cases e
  refine ha _ _ _ _ _ _ _ _ R e1 fun v H1 s1 d1 => ?_
  refine hr _ _ _ _ _ _ _ _ (R.same s1) e2 fun vs H2 s2 d2 hl => ?_
  exact k _ H2 (s1.trans s2) (.cons (dw_same (off_same s2) d1) d2) (by simp [hl])
theorem rf_lst {n : Nat} {t : TA} {f : DA} (h : RA K n t f) (hn : n ≤ 1000 := by decide) : RF K (tLst t) f := by
  intro H0 P0 P H σ ρ d Q R e k
  refine h _ _ _ _ _ _ _ _ R e fun vs H1 s1 d1 hl => ⟨by rw [sizeLine_eq, hl]; omega, fun p hp => ?_⟩
  exact k p vs _ (s1.free hp) (upd_new s1 hp) upd_same (dwa_same (off_new hp) d1)
theorem re_rf {t : TE} {f : DA} (h : RF K t f) : RE K t (dL f) := by
  intro H0 P0 P H σ ρ d Q R e k
  obtain ⟨ds, e1, rfl⟩ := Option.map_eq_some_iff.mp e
  refine h _ _ _ _ _ _ _ _ R e1 fun p xs H1 hn s1 hp da => ?_
  exact k _ H1 s1 (.lst (SqL.of (off_in.mpr ⟨fresh_P R.al hn, hp⟩)) (dwa_same (off_mono fun q hq => List.mem_cons_of_mem _ hq) da))
theorem re_cb {n : Nat} {r : List V → Hp → VK → Prop} {h : List WData → Option WData} {t : TA} {f : DA} (hr : RC K r h) (ha : RA K n t f) : RE K (tCB r t) (dCall h f) := by
  intro H0 P0 P H σ ρ d Q R e k
  obtain ⟨ds, e1, e⟩ := Option.bind_eq_some_iff.mp e
  refine ha _ _ _ _ _ _ _ _ R e1 fun vs H1 s1 d1 hl => ?_
  exact hr P H1 vs ds d Q (al_same R.al s1) d1 e fun v H2 s2 d2 => k v H2 (s1.trans s2) d2
theorem dwa_one {H : Hp} {xs : List V} {d : WData} (h : DwAll K H xs [d]) : ∃ x, xs = [x] ∧ Dw K H x d := by
  cases h with
  | cons a b =>
    cases b
    exact ⟨_, rfl, a⟩
theorem rc_len : RC K (fun xs H Q => ∃ p ys, xs = [.ref p] ∧ (SqL K H p ys ∨ SqT K H p ys) ∧ Q (.int ys.length) H) fLen := by
  intro P H xs ds d Q al da e k
  unfold fLen at e
  split at e
  · rename_i es
    cases e
    obtain ⟨x, rfl, dx⟩ := dwa_one da
    obtain ⟨a, ys, rfl, sq, dy⟩ := dw_lst dx
    refine ⟨a, ys, rfl, .inl (sqL_same off_sub sq), ?_⟩
    rw [dwa_len dy]
    exact k _ H (sm_refl H) (.int _)
  · rename_i es
    cases e
    obtain ⟨x, rfl, dx⟩ := dwa_one da
    obtain ⟨a, ys, rfl, sq, dy⟩ := dw_tup dx
    refine ⟨a, ys, rfl, .inr (sqT_same off_sub sq), ?_⟩
    rw [dwa_len dy]
    exact k _ H (sm_refl H) (.int _)
  · cases e
def spF (K : PySem.W.Frag) (n : Nat) (d : List WData → Option WData) : Sp := fun vs H Q _ => vs.length = n ∧ ∃ (P : List Addr) (ds : List WData) (r : WData), (∀ p ∈ P, H p ≠ none) ∧ DwAll K (off P H) vs ds ∧ d ds = some r ∧ ∀ v H', Same H H' → Dw K (off P H') v r → Q v H'
theorem re_call {n : Nat} {h : List WData → Option WData} {t : TA} {f : DA} {E : XK} (ha : RA K n t f) : RE K (tCall (spF K n h) [] E t) (dCall h f) := by
  intro H0 P0 P H σ ρ d Q R e k
  obtain ⟨ds, e1, e⟩ := Option.bind_eq_some_iff.mp e
  refine ha _ _ _ _ _ _ _ _ R e1 fun vs H1 s1 d1 hl => ?_
  rw [List.append_nil]
  exact ⟨hl, P, ds, d, al_same R.al s1, d1, e, fun v H2 s2 d2 => k v H2 (s1.trans s2) d2⟩
end
end Dn
end
section
set_option Elab.async false
set_option linter.all false
set_option maxRecDepth 100000
set_option maxHeartbeats 1000000
namespace Dn
open PySem PySem.Spec L2
open PySem.W (WData Codec)
def OutOk (K : PySem.W.Frag) (H0 : Hp) (P0 : List Addr) (D : Ends) : Out → Prop
  | .nx ρ => ∀ σ H, Rel K H0 P0 H σ ρ → D.nx σ H
  | .rt d => ∀ v H, Same H0 H → Dw K (off P0 H) v d → D.rt v H
  | .bk ρ => ∀ σ H, Rel K H0 P0 H σ ρ → D.bk σ H
  | .ct ρ => ∀ σ H, Rel K H0 P0 H σ ρ → D.ct σ H
def RS (K : PySem.W.Frag) (t : TS) (f : DS) : Prop := ∀ (H0 : Hp) (P0 : List Addr) (D : Ends) (σ : St) (H : Hp) (ρ : Rho) (o : Out), Rel K H0 P0 H σ ρ → f ρ = some o → OutOk K H0 P0 D o → t D σ H
section
variable {K : PySem.W.Frag}
theorem rs_nil : RS K tNext sNil := by
  intro H0 P0 D σ H ρ o R e k
  cases e
  exact k σ H R
theorem rs_seq {t u : TS} {f g : DS} (h1 : RS K t f) (h2 : RS K u g) : RS K (tSeq t u) (sSeq f g) := by
  intro H0 P0 D σ H ρ o R e k
  unfold sSeq at e
  unfold tSeq
  cases ef : f ρ with
  | none =>
    rw [ef] at e
    cases e
  | some q =>
    rw [ef] at e
    refine h1 H0 P0 _ σ H ρ q R ef ?_
    cases q with
    | nx ρ' => exact fun σ' H' R' => h2 H0 P0 D σ' H' ρ' o R' e k
    | rt d =>
      cases e
      exact k
    | bk ρ' =>
      cases e
      exact k
    | ct ρ' =>
      cases e
      exact k
theorem rs_ret {t : TE} {f : DE} (h : RE K t f) : RS K (tRet t) (sRet f) := by
  intro H0 P0 D σ H ρ o R e k
  obtain ⟨P, R⟩ := R
  obtain ⟨d, e1, rfl⟩ := Option.map_eq_some_iff.mp e
  exact h _ _ _ _ _ _ _ _ R e1 fun v H1 s1 d1 => k v H1 (R.sm.trans s1) (dw_same (off_mono R.sub) d1)
theorem rs_if {tc : TT} {t u : TS} {c : DT} {f g : DS} (hc : RT K tc c) (h1 : RS K t f) (h2 : RS K u g) : RS K (tIfS tc t u) (sIf c f g) := by
  intro H0 P0 D σ H ρ o R e k
  obtain ⟨P, R⟩ := R
  obtain ⟨b, e1, e⟩ := Option.bind_eq_some_iff.mp e
  refine hc _ _ _ _ _ _ _ _ R e1 fun H1 s1 => ?_
  split
  · rename_i hb
    rw [if_pos hb] at e
    exact h1 H0 P0 D σ H1 ρ o ⟨P, R.same s1⟩ e k
  · rename_i hb
    rw [if_neg hb] at e
    exact h2 H0 P0 D σ H1 ρ o ⟨P, R.same s1⟩ e k
theorem rs_set {i : Nat} {t : TE} {f : DE} (h : RE K t f) : RS K (tAsg t (gName i)) (sSet i f) := by
  intro H0 P0 D σ H ρ o R e k
  obtain ⟨P, R⟩ := R
  obtain ⟨d, e1, rfl⟩ := Option.map_eq_some_iff.mp e
  exact h _ _ _ _ _ _ _ _ R e1 fun v H1 s1 d1 => k _ H1 ⟨P, (R.same s1).setVal i d1⟩
theorem loop_turn {i : Nat} {tb : TS} {f : DS} (hb : RS K tb f) {H1 H : Hp} {P0 : List Addr} {σ : St} {ρ : Rho} {d : WData} {ds : List WData} {o : Out} {v : V} {D : Ends} {N : St → Hp → Prop} (R : Rel K H1 P0 H σ ρ) (dv : Dw K (off P0 H1) v d)
    (e : loop i f (d :: ds) ρ = some o) (hN : ∀ σ' H' ρ', Rel K H1 P0 H' σ' ρ' → loop i f ds ρ' = some o → N σ' H') (ho : OutOk K H1 P0 D o) :
    tb { D with nx := N, ct := N, bk := D.nx } (σ.set i (some v)) H := by
  obtain ⟨P, R⟩ := R
  have R' : Rel K H1 P0 H (σ.set i (some v)) (ρ.set i (some (.val d))) := ⟨P, R.setVal i (dw_same R.keep dv)⟩
  unfold loop at e
  split at e
  · rename_i ρ' q
    exact hb _ _ _ _ _ _ _ R' q fun σ' H' R2 => hN σ' H' ρ' R2 e
  · rename_i ρ' q
    exact hb _ _ _ _ _ _ _ R' q fun σ' H' R2 => hN σ' H' ρ' R2 e
  · rename_i ρ' q
    cases e
    exact hb _ _ _ _ _ _ _ R' q fun σ' H' R2 => ho σ' H' R2
  · rename_i v q
    cases e
    exact hb _ _ _ _ _ _ _ R' q fun v H' s1 d1 => ho v H' s1 d1
  · cases e
theorem OutOk.here {H0 : Hp} {P0 P : List Addr} {H : Hp} {σ : St} {ρ : Rho} {D : Ends} {o : Out} (R : RelP K H0 P0 P H σ ρ) (k : OutOk K H0 P0 D o) : OutOk K (here P0 P H) P0 D o := by
  cases o with
  | nx ρ => exact fun σ H R2 => k σ H (R2.back R.hereSame)
  | rt d => exact fun v H s1 d1 => k v H (R.hereSame.trans s1) d1
  | bk ρ => exact fun σ H R2 => k σ H (R2.back R.hereSame)
  | ct ρ => exact fun σ H R2 => k σ H (R2.back R.hereSame)
theorem getq {α : Type} {l : List α} {i : Nat} (h : i < l.length) : l.drop i = l[i] :: l.drop (i + 1) := List.drop_eq_getElem_cons h
theorem rs_for {i : Nat} {tl : TE} {tb : TS} {fl : DE} {f : DS} (hl : RE K tl fl) (hb : RS K tb f) : RS K (tFor (iList K tl) (gName i) tb) (sFor i fl f) := by
  intro H0 P0 D σ H ρ o R e k
  obtain ⟨P, R⟩ := R
  unfold sFor at e
  split at e
  · rename_i ds e1
    refine hl _ _ _ _ _ _ _ _ R e1 fun v H1 s1 d1 => ?_
    obtain ⟨a, xs, rfl, sq, da⟩ := dw_lst d1
    have R1 := R.same s1
    refine ⟨a, rfl, ⟨xs, sqL_same off_sub sq⟩, ?_⟩
    have da' := dwa_same (off_here R1.sub) da
    have sq' := sqL_same (off_here R1.sub) sq
    have len := dwa_len da
    have k' := OutOk.here R1 k
    refine for_list (K := K) (a := a) (xs := xs) (fun j σ' H' => ∃ ρ', Rel K (here P0 P H1) P0 H' σ' ρ' ∧ loop i f (ds.drop j) ρ' = some o) ⟨ρ, ⟨P, R1.here⟩, by simpa using e⟩ ?_ ?_ ?_
    · rintro j σ' H' _ ⟨ρ', ⟨P', R'⟩, _⟩
      exact sqL_same off_sub (sqL_same R'.keep sq')
    · rintro j x σ' H' hx ⟨ρ', R', e'⟩
      have hj : j < ds.length := by rw [← len]; exact (List.getElem?_eq_some_iff.mp hx).1
      rw [getq hj] at e'
      obtain ⟨y, hy, dy⟩ := dwa_get j da' (List.getElem?_eq_getElem hj)
      rw [hx] at hy
      cases hy
      exact loop_turn hb R' dy e' (fun σ2 H2 ρ2 R2 e2 => ⟨ρ2, R2, e2⟩) k'
    · rintro σ' H' ⟨ρ', R', e'⟩
      rw [len, List.drop_length] at e'
      cases e'
      exact k' σ' H' R'
  · cases e
theorem rng_len (lo : Int) (n : Nat) : (rng lo n).length = n := by simp [rng]
theorem range_core {i : Nat} {tb : TS} {f : DS} (hb : RS K tb f) {H0 : Hp} {P0 P : List Addr} {D : Ends} {σ : St} {H1 : Hp} {ρ : Rho} {o : Out} {lo : Int} {n : Nat} (R1 : RelP K H0 P0 P H1 σ ρ) (e : loop i f (rng lo n) ρ = some o) (k : OutOk K H0 P0 D o) :
    ∃ W : Nat → Nat → St → Hp → Prop, (∃ m, W 0 m σ H1) ∧ ∀ i' m σ H, W i' m σ H →
      ((Itr lo n).stop i' H ∧ D.nx σ H) ∨ ((Itr lo n).go i' H ∧ ∃ N : St → Hp → Prop, (∀ σ' H', N σ' H' → ∃ m', m' < m ∧ W (i' + 1) m' σ' H') ∧ ∀ x H', (Itr lo n).yld i' H x H' → gName i x σ H' fun σ2 H2 => tb { D with nx := N, ct := N, bk := D.nx } σ2 H2) := by
  have k' := OutOk.here R1 k
  refine for_range (fun j σ' H' => ∃ ρ', Rel K (here P0 P H1) P0 H' σ' ρ' ∧ loop i f ((rng lo n).drop j) ρ' = some o) ⟨ρ, ⟨P, R1.here⟩, by simpa using e⟩ ?_ ?_
  · rintro j σ' H' hj ⟨ρ', R', e'⟩
    rw [getq (by rw [rng_len]; exact hj)] at e'
    have ex : (rng lo n)[j]'(by rw [rng_len]; exact hj) = .int (lo + (j : Nat)) := by simp [rng]
    rw [ex] at e'
    exact loop_turn hb R' (.int _) e' (fun σ2 H2 ρ2 R2 e2 => ⟨ρ2, R2, e2⟩) k'
  · rintro σ' H' ⟨ρ', R', e'⟩
    have z : (rng lo n).drop n = [] := by
      have := List.drop_length (l := rng lo n)
      rw [rng_len] at this
      exact this
    rw [z] at e'
    cases e'
    exact k' σ' H' R'
theorem dwa_two {H : Hp} {xs : List V} {d e : WData} (h : DwAll K H xs [d, e]) : ∃ x y, xs = [x, y] ∧ Dw K H x d ∧ Dw K H y e := by
  cases h with
  | cons a b =>
    obtain ⟨y, rfl, b'⟩ := dwa_one b
    exact ⟨_, _, rfl, a, b'⟩
theorem c62_ok {j : Int} (h : c62 j = true) : -(2 ^ 62) ≤ j ∧ j < 2 ^ 62 := by
  unfold c62 at h
  exact of_yes h
theorem rs_forR1 {i : Nat} {ta : TA} {tb : TS} {fa : DA} {f : DS} (ha : RA K 1 ta fa) (hb : RS K tb f) : RS K (tFor (iRng1 ta) (gName i) tb) (sForR i fa f) := by
  intro H0 P0 D σ H ρ o R e k
  obtain ⟨P, R⟩ := R
  unfold sForR at e
  split at e
  · rename_i j e1
    split at e
    · rename_i c
      refine ha _ _ _ _ _ _ _ _ R e1 fun vs H1 s1 d1 _ => ?_
      obtain ⟨x, rfl, dx⟩ := dwa_one d1
      rw [dw_int dx]
      exact ⟨j, rfl, (c62_ok c).1, (c62_ok c).2, range_core hb (R.same s1) e k⟩
    · cases e
  · rename_i l j e1
    refine ha _ _ _ _ _ _ _ _ R e1 fun vs H1 s1 d1 hl => ?_
    obtain ⟨x, y, rfl, _⟩ := dwa_two d1
    cases hl
  · cases e
theorem rs_forR2 {i : Nat} {ta : TA} {tb : TS} {fa : DA} {f : DS} (ha : RA K 2 ta fa) (hb : RS K tb f) : RS K (tFor (iRng2 ta) (gName i) tb) (sForR i fa f) := by
  intro H0 P0 D σ H ρ o R e k
  obtain ⟨P, R⟩ := R
  unfold sForR at e
  split at e
  · rename_i j e1
    refine ha _ _ _ _ _ _ _ _ R e1 fun vs H1 s1 d1 hl => ?_
    obtain ⟨x, rfl, _⟩ := dwa_one d1
    cases hl
  · rename_i l j e1
    split at e
    · rename_i c
      obtain ⟨c1, c2⟩ := Bool.and_eq_true_iff.mp c
      refine ha _ _ _ _ _ _ _ _ R e1 fun vs H1 s1 d1 _ => ?_
      obtain ⟨x, y, rfl, dx, dy⟩ := dwa_two d1
      rw [dw_int dx, dw_int dy]
      exact ⟨l, j, rfl, ⟨(c62_ok c1).1, (c62_ok c1).2, (c62_ok c2).1, (c62_ok c2).2⟩, range_core hb (R.same s1) e k⟩
    · cases e
  · cases e
theorem rt_yes : RT K tYes dYes := by
  intro H0 P0 P H σ ρ d Q R e k
  cases e
  exact k H (sm_refl H)
structure LcInv (K : PySem.W.Frag) (i : Nat) (ρw : Rho) (c : DT) (f : DE) (P : List Addr) (H1 : Hp) (D : Addr) (out : List WData) (rest : List WData) (k : Nat) (H : Hp) : Prop where
  ex : ∃ (xs : List V) (acc more : List WData), H D = some (.lst xs) ∧ DwAll K (off (D :: P) H) xs acc ∧ lcGo i ρw c f rest = some more ∧ out = acc ++ more ∧ acc.length ≤ k ∧ ∀ b o, H1 b = some o → H b = some o
theorem lc_turn {i : Nat} {vs : List Nat} {tt : TT} {te : TE} {c : DT} {f : DE} (hi : i ∈ vs) (ht : RT K tt c) (he : RE K te f) {H0 : Hp} {P0 P : List Addr} {H1 H : Hp} {σ : St} {ρ : Rho} {D : Addr} {out rest : List WData} {d : WData} {v : V} {k : Nat}
    (R : RelP K H0 P0 P H1 σ ρ) (hD : H1 D = none) (hk : k < 16777216) (I : LcInv K i (wipeR ρ vs) c f P H1 D out (d :: rest) k H) (dv : Dw K (off P H1) v d)
    (hw : L2.wipe ((L2.wipe σ vs).set i (some v)) vs = L2.wipe σ vs) :
    gName i v (L2.wipe σ vs) H fun σ2 H2 => L2.wipe σ2 vs = L2.wipe σ vs ∧ tt σ2 H2 fun b H3 => if b = true then te σ2 H3 fun y H4 => ∃ acc, H4 D = some (.lst acc) ∧ acc.length < sizeLine ∧ LcInv K i (wipeR ρ vs) c f P H1 D out rest (k + 1) (upd H4 D (.lst (acc ++ [y])))
      else LcInv K i (wipeR ρ vs) c f P H1 D out rest (k + 1) H3 := by
  obtain ⟨xs, acc, more, hx, da, el, rfl, hal, sm⟩ := I.ex
  have hDP : D ∉ P := fresh_P R.al hD
  have mo : Same (off P H1) (off (D :: P) H) := fun b o e => by
    rw [off_in] at *
    refine ⟨fun q => ?_, sm b o e.2⟩
    rcases List.mem_cons.mp q with q | q
    · subst q
      rw [hD] at e
      cases e.2
    · exact e.1 q
  have R1 : RelP K H0 P0 (D :: P) H σ ρ := by
    refine ⟨fun p hp => List.mem_cons_of_mem _ (R.sub p hp), ?_, ?_, R.sm.trans sm, ?_, ?_, R.dis, R.len⟩
    · intro p hp
      rcases List.mem_cons.mp hp with q | q
      · subst q
        rw [hx]
        simp
      · exact al_same R.al sm p q
    · intro p hp
      rcases List.mem_cons.mp hp with q | q
      · subst q
        exact .inr (R.sm.free hD)
      · exact R.new p q
    · intro j e q
      obtain ⟨w, a, b⟩ := R.val j e q
      exact ⟨w, a, dw_same mo b⟩
    · intro j es q
      obtain ⟨p, zs, a, b, c', hz, da'⟩ := R.own j es q
      exact ⟨p, zs, a, List.mem_cons_of_mem _ b, c', sm _ _ hz, dwa_same mo da'⟩
  have R2 := (R1.wipe vs).setVal i (dw_same mo dv)
  refine ⟨hw, ?_⟩
  unfold lcGo at el
  obtain ⟨b, e1, el⟩ := Option.bind_eq_some_iff.mp el
  refine ht _ _ _ _ _ _ _ _ R2 e1 fun H3 s3 => ?_
  split
  · rename_i hb
    rw [if_pos hb] at el
    obtain ⟨y, e2, el⟩ := Option.bind_eq_some_iff.mp el
    obtain ⟨more', e3, rfl⟩ := Option.map_eq_some_iff.mp el
    refine he _ _ _ _ _ _ _ _ (R2.same s3) e2 fun w H4 s4 d4 => ?_
    have s34 := s3.trans s4
    refine ⟨xs, s34 _ _ hx, by rw [sizeLine_eq, dwa_len da]; omega, ⟨xs ++ [w], acc ++ [y], more', upd_same, ?_, e3, by simp, by simp; omega, ?_⟩⟩
    · rw [off_upd (List.mem_cons_self ..)]
      exact dwa_app (dwa_same (off_same s34) da) (.cons d4 .nil)
    · intro b' o e
      rw [upd_ne (ne_of_none e hD)]
      exact s34 _ _ (sm b' o e)
  · rename_i hb
    rw [if_neg hb] at el
    exact ⟨xs, acc, more, s3 _ _ hx, dwa_same (off_same s3) da, el, rfl, by omega, fun b' o e => s3 _ _ (sm b' o e)⟩
theorem wipe1_set {σ : St} {i : Nat} {v : Option V} : L2.wipe ((L2.wipe σ [i]).set i v) [i] = L2.wipe σ [i] := by
  simp [L2.wipe, List.set_set]
theorem lc_start {i : Nat} {vs : List Nat} {c : DT} {f : DE} {P : List Addr} {H1 : Hp} {D : Addr} {ρ : Rho} {ds out : List WData} (hD : H1 D = none) (e : lcGo i (wipeR ρ vs) c f ds = some out) : LcInv K i (wipeR ρ vs) c f P H1 D out ds 0 (upd H1 D (.lst [])) :=
  ⟨[], [], out, upd_same, .nil, e, rfl, Nat.le_refl _, fun b o q => by rw [upd_ne (ne_of_none q hD)]; exact q⟩
theorem lc_end {i : Nat} {ρw : Rho} {c : DT} {f : DE} {P : List Addr} {H1 H : Hp} {D : Addr} {out : List WData} {k : Nat} (I : LcInv K i ρw c f P H1 D out [] k H) : ∃ xs, H D = some (.lst xs) ∧ DwAll K (off (D :: P) H) xs out ∧ Same H1 H := by
  obtain ⟨xs, acc, more, hx, da, el, rfl, _, sm⟩ := I.ex
  cases el
  rw [List.append_nil]
  exact ⟨xs, hx, da, sm⟩
theorem rf_lc {i : Nat} {tl te : TE} {tt : TT} {fl f : DE} {c : DT} (hl : RE K tl fl) (ht : RT K tt c) (he : RE K te f) : RF K (tLc (iList K tl) (gName i) tt te [i]) (dLc i [i] fl c f) := by
  intro H0 P0 P H σ ρ out Q R e k
  unfold dLc at e
  split at e
  · rename_i ds e1
    split at e
    · rename_i hz
      have hz := of_yes hz
      refine hl _ _ _ _ _ _ _ _ R e1 fun v H1 s1 d1 => ?_
      obtain ⟨a, xs, rfl, sq, da⟩ := dw_lst d1
      have R1 := R.same s1
      have len := dwa_len da
      refine ⟨a, rfl, ⟨xs, sqL_same off_sub sq⟩, fun D hD => ?_⟩
      refine lc_list (K := K) (a := a) (xs := xs) (fun j H' => LcInv K i (wipeR ρ [i]) c f P H1 D out (ds.drop j) j H') (by simpa using lc_start hD e) ?_ ?_ ?_
      · rintro j H' _ I
        obtain ⟨_, _, _, _, _, _, _, _, sm⟩ := I.ex
        exact sqL_same (fun b o q => sm b o (off_sub b o q)) sq
      · intro j x H' hx I
        have hj : j < ds.length := by rw [← len]; exact (List.getElem?_eq_some_iff.mp hx).1
        rw [getq hj] at I
        obtain ⟨y, hy, dy⟩ := dwa_get j da (List.getElem?_eq_getElem hj)
        rw [hx] at hy
        cases hy
        exact lc_turn (List.mem_singleton.mpr rfl) ht he R1 hD (by omega) I dy wipe1_set
      · intro H' I
        rw [len, List.drop_length] at I
        obtain ⟨ys, h1, h2, h3⟩ := lc_end I
        exact k D ys H' (s1.free hD) (s1.trans h3) h1 h2
    · cases e
  · cases e
theorem lcr_core {i : Nat} {te : TE} {tt : TT} {f : DE} {c : DT} (ht : RT K tt c) (he : RE K te f) {H0 : Hp} {P0 P : List Addr} {H1 : Hp} {σ : St} {ρ : Rho} {out : List WData} {lo : Int} {n : Nat} {D : Addr} {Qd : Hp → Prop} (R1 : RelP K H0 P0 P H1 σ ρ) (hn : n < 16777216) (hD : H1 D = none)
    (e : lcGo i (wipeR ρ [i]) c f (rng lo n) = some out) (k : ∀ xs H', Same H1 H' → H' D = some (.lst xs) → DwAll K (off (D :: P) H') xs out → Qd H') :
    ∃ W : Nat → Nat → Hp → Prop, (∃ m, W 0 m (upd H1 D (.lst []))) ∧ ∀ j m H, W j m H →
      ((Itr lo n).stop j H ∧ Qd H) ∨ ((Itr lo n).go j H ∧ ∃ Nx : Hp → Prop, (∀ H', Nx H' → ∃ m', m' < m ∧ W (j + 1) m' H') ∧ ∀ x H', (Itr lo n).yld j H x H' → gName i x (L2.wipe σ [i]) H' fun σ2 H2 => L2.wipe σ2 [i] = L2.wipe σ [i] ∧ tt σ2 H2 fun b H3 =>
        if b = true then te σ2 H3 fun y H4 => ∃ acc, H4 D = some (.lst acc) ∧ acc.length < sizeLine ∧ Nx (upd H4 D (.lst (acc ++ [y]))) else Nx H3) := by
  refine lc_range (fun j H' => LcInv K i (wipeR ρ [i]) c f P H1 D out ((rng lo n).drop j) j H') (by simpa using lc_start hD e) ?_ ?_
  · intro j H' hj I
    rw [getq (by rw [rng_len]; exact hj)] at I
    have ex : (rng lo n)[j]'(by rw [rng_len]; exact hj) = .int (lo + (j : Nat)) := by simp [rng]
    rw [ex] at I
    exact lc_turn (List.mem_singleton.mpr rfl) ht he R1 hD (by omega) I (.int _) wipe1_set
  · intro H' I
    have z : (rng lo n).drop n = [] := by
      have := List.drop_length (l := rng lo n)
      rw [rng_len] at this
      exact this
    rw [z] at I
    obtain ⟨ys, h1, h2, h3⟩ := lc_end I
    exact k ys H' h3 h1 h2
theorem rf_lcR1 {i : Nat} {ta : TA} {te : TE} {tt : TT} {fa : DA} {f : DE} {c : DT} (ha : RA K 1 ta fa) (ht : RT K tt c) (he : RE K te f) : RF K (tLc (iRng1 ta) (gName i) tt te [i]) (dLcR i [i] fa c f) := by
  intro H0 P0 P H σ ρ out Q R e k
  unfold dLcR at e
  split at e
  · rename_i j e1
    split at e
    · rename_i cc
      obtain ⟨c1, c2⟩ := Bool.and_eq_true_iff.mp cc
      have c2 := of_yes c2
      refine ha _ _ _ _ _ _ _ _ R e1 fun vs H1 s1 d1 _ => ?_
      obtain ⟨x, rfl, dx⟩ := dwa_one d1
      rw [dw_int dx]
      refine ⟨j, rfl, (c62_ok c1).1, (c62_ok c1).2, fun D hD => ?_⟩
      exact lcr_core ht he (R.same s1) (by omega) hD e fun xs H' s h1 h2 => k D xs H' (s1.free hD) (s1.trans s) h1 h2
    · cases e
  · rename_i l j e1
    refine ha _ _ _ _ _ _ _ _ R e1 fun vs H1 s1 d1 hl => ?_
    obtain ⟨x, y, rfl, _⟩ := dwa_two d1
    cases hl
  · cases e
def rCatL (K : PySem.W.Frag) : R2 := fun x y H Q => ∃ l b xs zs, x = .ref l ∧ y = .ref b ∧ SqL K H l xs ∧ SqL K H b zs ∧ xs.length + zs.length ≤ sizeLine ∧ ∀ p, H p = none → Q (.ref p) (upd H p (.lst (xs ++ zs)))
theorem rf_cat {ta tb : TE} {f g : DE} (ha : RE K ta f) (hb : RE K tb g) : RF K (tOp (rCatL K) ta tb) (dCat f g) := by
  intro H0 P0 P H σ ρ out Q R e k
  obtain ⟨x, e1, e⟩ := Option.bind_eq_some_iff.mp e
  obtain ⟨y, e2, e⟩ := Option.bind_eq_some_iff.mp e
  split at e
  · rename_i a b
    split at e
    · rename_i hz
      have hz := of_yes hz
      cases e
      refine ha _ _ _ _ _ _ _ _ R e1 fun v H1 s1 d1 => ?_
      refine hb _ _ _ _ _ _ _ _ (R.same s1) e2 fun w H2 s2 d2 => ?_
      obtain ⟨p, xs, rfl, sq, da⟩ := dw_lst (dw_same (off_same s2) d1)
      obtain ⟨q, zs, rfl, sz, db⟩ := dw_lst d2
      refine ⟨p, q, xs, zs, rfl, rfl, sqL_same off_sub sq, sqL_same off_sub sz, by rw [sizeLine_eq, dwa_len da, dwa_len db]; exact hz, fun r hr => ?_⟩
      have s12 := s1.trans s2
      exact k r _ _ (s12.free hr) (upd_new s12 hr) upd_same (dwa_same (off_new hr) (dwa_app da db))
    · cases e
  · cases e
end
section
variable {X : Cx}
theorem op_catL : OpR X (binaryOp .Add) (rCatL X.K) := by
  intro pins s σ H x y v u Q I rx ry h
  obtain ⟨l, b, xs, zs, rfl, rfl, hH, hB, hz, q⟩ := h
  cases rx
  cases ry
  obtain ⟨its, r, pl, z1⟩ := I.list hH
  obtain ⟨its2, r2, pl2, z2⟩ := I.list hB
  have l1 := r.length
  have l2 := r2.length
  obtain ⟨⟨cls, dd, data, sl⟩, n, ho, hc, hd, hs⟩ := pl
  obtain ⟨⟨cls2, dd2, data2, sl2⟩, n2, ho2, hc2, hd2, hs2⟩ := pl2
  simp only at hc hd hs hc2 hd2 hs2
  subst hc hd hs hc2 hd2 hs2
  refine PySem.concat_meets ⟨_, ho, rfl⟩ ⟨_, ho2, rfl⟩ PySem.noFill_list_add PySem.seq_list_add PySem.F.slot_list_add PySem.F.entry_list_add (PySem.F.args_list_add_2 _ _) (PyProof.Rows.list_addW l b its.toArray its2.toArray n n2 none none sl sl2 (by rw [List.size_toArray, List.size_toArray]; omega)) ⟨ho, ho2, ?_⟩
  have ea : its.toArray ++ its2.toArray = (its ++ its2).toArray := by simp
  rw [ea]
  exact ⟨.ref _, _, I.lnew (t' := s.toks) (r.append r2) (by rw [List.length_append]; omega), rfl, q _ I.fresh⟩
end
theorem init_rel {K : PySem.W.Frag} {P : List Addr} {H : Hp} {vs : List V} {ds : List WData} {N : List Str} (al : ∀ p ∈ P, H p ≠ none) (da : DwAll K (off P H) vs ds) : Rel K H P H (L2.start N vs) (initR N.length ds) := by
  have len := dwa_len da
  have no : ∀ {j : Nat} {es : List WData}, (initR N.length ds)[j]? = some (some (Sl.own es)) → False := fun {j es} q => by
    unfold initR at q
    rw [List.getElem?_append] at q
    split at q
    · rw [List.getElem?_map] at q
      cases z : ds[j]? with
      | none =>
        rw [z] at q
        cases q
      | some d =>
        rw [z] at q
        cases q
    · rw [List.getElem?_replicate] at q
      split at q <;> cases q
  refine ⟨P, fun _ h => h, al, fun _ h => .inl h, sm_refl H, ?_, fun i es q => (no q).elim, fun i j as bs p q1 => (no q1).elim, ?_⟩
  · intro i d q
    unfold initR at q
    rw [List.getElem?_append] at q
    split at q
    · rename_i hi
      rw [List.length_map] at hi
      rw [List.getElem?_map] at q
      cases z : ds[i]? with
      | none =>
        rw [z] at q
        cases q
      | some d' =>
        rw [z] at q
        cases q
        obtain ⟨v, e1, e2⟩ := dwa_get i da z
        refine ⟨v, ?_, e2⟩
        unfold L2.start
        rw [List.getElem?_append_left (by rw [List.length_map, len]; exact hi), List.getElem?_map, e1]
        rfl
    · rw [List.getElem?_replicate] at q
      split at q <;> cases q
  · unfold L2.start initR
    simp [len]
section
variable {P : Program} {w : World} {K : PySem.W.Frag} {mg : Str → Option Value} {base : Heap}
theorem den_ok {x qual : Str} {st : Stmt} {f : Addr} {fd : FuncData} {N ps : List Str} {k : Nat} {fs : DS} (F : Fun K x qual st f fd) (S : FnScope N ps (defScope st))
    (hbody : ∀ (cdv : Value) (A : Around) (outer : List Env) (s : Shared) (H : Hp) (E : XK), Room k (A.deeper (PyProof.Rows.envOfC qual (defScope st) s.heap.objs.size f cdv)) →
      ∃ t, PSs (cxOf CX0 P w K mg base N qual (defScope st) f cdv A outer s H E).nox (defBody st) t ∧ RS K t fs) : FnOk P w K mg base CX0 (k + 1) f fd ps (spF K ps.length (body N.length fs)) := by
  refine F.ok S (fun vs H Q E h => h.1) (fun cdv A outer s H vs Q E hr h => ?_)
  obtain ⟨t, h1, h2⟩ := hbody cdv A outer s H E hr
  refine ⟨t, h1, ?_⟩
  obtain ⟨_, P', ds, r, al, da, e, q⟩ := h
  unfold body at e
  split at e
  · rename_i d e1
    cases e
    exact h2 H P' _ _ _ _ _ (init_rel al da) e1 fun v H' s1 d1 => q v H' s1 d1
  · rename_i ρ e1
    cases e
    refine h2 H P' _ _ _ _ _ (init_rel al da) e1 fun σ' H' R' => ?_
    obtain ⟨P2, R2⟩ := R'
    exact q .non H' R2.sm .non
  · cases e
structure Cal (P : Program) (w : World) (K : PySem.W.Frag) (mg : Str → Option Value) (base : Heap) (k : Nat) (x : Str) (ps : List Str) (n : Nat) (d : List WData → Option WData) : Prop where
  ex : ∃ (f : Addr) (fd : FuncData), FnOk P w K mg base CX0 k f fd ps (spF K n d) ∧ mg x = some (.ref f) ∧ PySem.W.keepIn K (.ref f) = true ∧ Binds K fd ps []
end
section
variable {X : Cx} {k : Nat} {x : Str} {ps : List Str} {n : Nat} {d : List WData → Option WData} {e : Expr} {es : List Expr} {t : TA} {p pos : Pos}
theorem pe_cal (C : Cal X.prog X.w X.K X.mg X.base k x ps n d) {m : Nat} (hr : Room m X.A) (hk : k ≤ m) (hg : Gl X x) (ha : PA X (e :: es) t) (hdb : (x == ("__debug__" : Str)) = false := by decide) (he : starEach (e :: es) X.env = (false, eval e X.env) :: starEach es X.env := by rfl)
    (hpl : (backTo pos (starEach es X.env)).any (·.1) = false := by rfl) : PE X (.Call (.Name x p) (e :: es) [] pos) (tCall (spF X.K n d) [] E0 t) := by
  obtain ⟨f, fd, F, hm, hkp, hb⟩ := C.ex
  exact pe_call F (hr.mono hk) hg hm hkp hb .nil pass0 ha hdb he hpl
end
end Dn
end
section
namespace Dn
open PySem PySem.Spec L2
open PySem.W (WData Codec)
theorem last_sp {K : PySem.W.Frag} {n : Nat} {d : List WData → Option WData} {H : Hp} {xs : List V} {ds : List WData} {r : WData} (hx : DwAll K H xs ds) (hn : ds.length = n) (e : d ds = some r) :
    spF K n d xs H (fun v H' => Dw K H' v r) (fun _ _ _ => False) :=
  ⟨(dwa_len hx).trans hn, [], ds, r, (fun p hp => by simp at hp), by rw [off_nil]; exact hx, e, fun v H' _ d1 => by rw [off_nil] at d1; exact d1⟩
end Dn
end
section
set_option Elab.async false
set_option linter.all false
set_option maxRecDepth 100000
set_option maxHeartbeats 1000000
noncomputable section
namespace Dn
open L2
open PySem.W (WData)
def dMeth (h : WData → List WData → Option WData) (f : DE) (g : DA) : DE := fun ρ => (f ρ).bind fun x => (g ρ).bind fun xs => h x xs
def hEqL : WData → WData → Option WData
  | .list a, .list b => (intsOf a).bind fun x => (intsOf b).bind fun y => some (.bool (decide (x = y)))
  | _, _ => none
def fListOf : List WData → Option (List WData)
  | [.list ds] => some ds
  | [.tuple ds] => some ds
  | _ => none
def dNew (h : List WData → Option (List WData)) (f : DA) : DA := fun ρ => (f ρ).bind h
def cut (lo hi : Nat) : WData → Option (List WData)
  | .list ds => some ((ds.drop lo).take (hi - lo))
  | _ => none
def dCut (lo hi : Nat) (f : DE) : DA := fun ρ => (f ρ).bind (cut lo hi)
def hRep (ds : List WData) : WData → Option (List WData)
  | .int k => if yes (-(2 ^ 63) ≤ k ∧ k < 2 ^ 63 ∧ ds.length * k.toNat ≤ 16777216) = true then some (List.replicate k.toNat ds).flatten else none
  | _ => none
def dRep (f : DA) (g : DE) : DA := fun ρ => (f ρ).bind fun ds => (g ρ).bind fun k => hRep ds k
theorem hEqL_ll (a b : List Int) : hEqL (.list (a.map .int)) (.list (b.map .int)) = some (.bool (decide (a = b))) := by
  show (intsOf (a.map .int)).bind (fun x => (intsOf (b.map .int)).bind fun y => some (WData.bool (decide (x = y)))) = _
  rw [intsOf_ints, intsOf_ints]
  rfl
theorem fListOf_t (ds : List WData) : fListOf [.tuple ds] = some ds := rfl
theorem cut_l (lo hi : Nat) (ds : List WData) : cut lo hi (.list ds) = some ((ds.drop lo).take (hi - lo)) := rfl
def lcRs (i : Nat) (ρ : Rho) (c : DT) (f : DE) : List WData → Option (List WData)
  | [.int j] => if (c62 j && yes (j < 16777216)) = true then lcGo i ρ c f (rng 0 j.toNat) else none
  | [.int l, .int j] => if (c62 l && (c62 j && yes (j - l < 16777216))) = true then lcGo i ρ c f (rng l (j - l).toNat) else none
  | _ => none
theorem dLcR_eq (i : Nat) (vs : List Nat) (fa : DA) (c : DT) (f : DE) (ρ : Rho) : dLcR i vs fa c f ρ = (fa ρ).bind (lcRs i (wipeR ρ vs) c f) := by
  unfold dLcR
  cases fa ρ with
  | none => rfl
  | some ds =>
    rw [Option.bind_some]
    unfold lcRs
    split <;> (rename_i h; try cases h) <;> first | rfl | (split <;> first | rfl | (rename_i h2; cases h2; exact (h _ rfl).elim) | skip)
    all_goals simp_all
theorem lcRs_1 {i : Nat} {ρ : Rho} {c : DT} {f : DE} {j : Int} (h0 : 0 ≤ j) (hj : j < 16777216) : lcRs i ρ c f [.int j] = lcGo i ρ c f (rng 0 j.toNat) := by
  show (if (c62 j && yes (j < 16777216)) = true then _ else none) = _
  rw [c62_of (by omega) (by omega), yes_of hj]
  rfl
theorem lcGo_map {i : Nat} {ρ : Rho} {f : DE} {α : Type} (g : α → WData) (h : α → WData) : ∀ {l : List α}, (∀ a ∈ l, f (ρ.set i (some (.val (g a)))) = some (h a)) → lcGo i ρ dYes f (l.map g) = some (l.map h)
  | [], _ => rfl
  | a :: l, e => by
    have ih := lcGo_map g h (l := l) fun b hb => e b (List.mem_cons_of_mem _ hb)
    show (dYes _).bind _ = _
    simp only [dYes, Option.bind_some, if_true, e a (List.mem_cons_self ..), List.map_cons]
    show (lcGo i ρ dYes f (l.map g)).map _ = _
    rw [ih]
    rfl
theorem lcGo_filter {i : Nat} {ρ : Rho} {c : DT} {f : DE} {α : Type} (g : α → WData) (h : α → WData) (q : α → Bool) : ∀ {l : List α}, (∀ a ∈ l, c (ρ.set i (some (.val (g a)))) = some (q a)) → (∀ a ∈ l, q a = true → f (ρ.set i (some (.val (g a)))) = some (h a)) → lcGo i ρ c f (l.map g) = some ((l.filter q).map h)
  | [], _, _ => rfl
  | a :: l, e1, e2 => by
    have ih := lcGo_filter g h q (l := l) (fun b hb => e1 b (List.mem_cons_of_mem _ hb)) (fun b hb => e2 b (List.mem_cons_of_mem _ hb))
    show (c _).bind _ = _
    rw [e1 a (List.mem_cons_self ..), Option.bind_some]
    cases hq : q a with
    | false =>
      rw [if_neg (by simp), ih, List.filter_cons_of_neg (by simp [hq])]
    | true =>
      rw [if_pos rfl, e2 a (List.mem_cons_self ..) hq, Option.bind_some, ih, List.filter_cons_of_pos hq]
      rfl
theorem rng_map (n : Nat) : rng 0 n = (List.range n).map fun (k : Nat) => .int (k : Int) := by
  unfold rng
  refine List.map_congr_left fun k _ => ?_
  congr 1
  omega
end Dn
end
end
section
set_option Elab.async false
set_option linter.all false
set_option maxRecDepth 100000
set_option maxHeartbeats 1000000
namespace Dn
open PySem PySem.Spec L2
open PySem.W (WData Codec)
abbrev pL (r : List Int) : PyData := .list (r.map .int)
theorem lay_ints : ∀ ns : List Int, PyData.canLayAll0 (ns.map .int) = true
  | [] => by simp [PyData.canLayAll0]
  | n :: r => by
    have := lay_ints r
    simp [PyData.canLayAll0, PyData.canLay0, this]
theorem depth_ints : ∀ ns : List Int, PyData.depthAll (ns.map .int) = 0
  | [] => by simp [PyData.depthAll]
  | n :: r => by
    have := depth_ints r
    simp [PyData.depthAll, PyData.depth, this]
theorem lay_row (ns : List Int) : (pL ns).canLay0 = true := by simp only [pL, PyData.canLay0, lay_ints]
theorem depth_row (ns : List Int) : (pL ns).depth = 1 := by simp only [pL, PyData.depth, depth_ints]
theorem shaped_row (ns : List Int) : SeqAt.shaped (pL ns) = true := by
  unfold SeqAt.shaped
  rw [lay_row, depth_row]
  rfl
theorem eqv_all : ∀ a b : List Int, PyData.eqvAll (a.map .int) (b.map .int) = decide (a = b)
  | [], [] => by simp [PyData.eqvAll]
  | [], y :: b => by simp [PyData.eqvAll]
  | x :: a, [] => by simp [PyData.eqvAll]
  | x :: a, y :: b => by
    have := eqv_all a b
    rw [List.map_cons, List.map_cons, PyData.eqvAll, this, PyData.eqv, Bool.beq_eq_decide_eq]
    simp
theorem eqv_row (a b : List Int) : PyData.eqv (pL a) (pL b) = decide (a = b) := by
  rw [PyData.eqv]
  exact eqv_all a b
section
variable {K : PySem.W.Frag}
theorem dpa_ints {H : Hp} : ∀ ns : List Int, DpAll K H (ns.map V.int) (ns.map .int)
  | [] => .nil
  | n :: r => .cons (.int n) (dpa_ints r)
theorem dp_row {P : List Addr} {H : Hp} {v : V} {ns : List Int} (h : Dw K (off P H) v (.list (ns.map .int))) : Dp K H v (pL ns) := by
  obtain ⟨a, xs, rfl, sq, da⟩ := dw_lst h
  have := ints_dw ns xs da
  subst this
  exact .lst (sqL_same off_sub sq) (dpa_ints ns)
theorem ro_eqL : RO K (rEqD K) hEqL := by
  intro P H x y dx dy d Q al d1 d2 e k
  unfold hEqL at e
  split at e
  · rename_i a b
    obtain ⟨u, e1, e⟩ := Option.bind_eq_some_iff.mp e
    obtain ⟨v, e2, e⟩ := Option.bind_eq_some_iff.mp e
    cases e
    rw [intsOf_map e1] at d1
    rw [intsOf_map e2] at d2
    refine ⟨pL u, pL v, dp_row d1, dp_row d2, shaped_row u, shaped_row v, ?_⟩
    rw [eqv_row]
    exact k _ H (sm_refl H) (.bl _)
  · cases e
def RN (K : PySem.W.Frag) (r : List V → Hp → VK → Prop) (h : List WData → Option (List WData)) : Prop := ∀ (P : List Addr) (H : Hp) (xs : List V) (ds out : List WData) (Q : VK), (∀ p ∈ P, H p ≠ none) → DwAll K (off P H) xs ds → h ds = some out →
  (∀ p ys H', H p = none → Same H H' → H' p = some (.lst ys) → DwAll K (off (p :: P) H') ys out → Q (.ref p) H') → r xs H Q
theorem rf_new {n : Nat} {r : List V → Hp → VK → Prop} {h : List WData → Option (List WData)} {t : TA} {f : DA} (hr : RN K r h) (ha : RA K n t f) : RF K (tCB r t) (dNew h f) := by
  intro H0 P0 P H σ ρ out Q R e k
  obtain ⟨ds, e1, e⟩ := Option.bind_eq_some_iff.mp e
  refine ha _ _ _ _ _ _ _ _ R e1 fun vs H1 s1 d1 hl => ?_
  exact hr P H1 vs ds out Q (al_same R.al s1) d1 e fun p ys H2 hn s2 hp da => k p ys H2 (s1.free hn) (s1.trans s2) hp da
theorem rn_list : RN K (fun xs H Q => ∃ p ys, xs = [.ref p] ∧ (SqL K H p ys ∨ SqT K H p ys) ∧ ∀ l, H l = none → Q (.ref l) (upd H l (.lst ys))) fListOf := by
  intro P H xs ds out Q al da e k
  unfold fListOf at e
  split at e
  · rename_i es
    cases e
    obtain ⟨x, rfl, dx⟩ := dwa_one da
    obtain ⟨a, ys, rfl, sq, dy⟩ := dw_lst dx
    exact ⟨a, ys, rfl, .inl (sqL_same off_sub sq), fun l hl => k l ys _ hl (upd_new (sm_refl H) hl) upd_same (dwa_same (off_new hl) dy)⟩
  · rename_i es
    cases e
    obtain ⟨x, rfl, dx⟩ := dwa_one da
    obtain ⟨a, ys, rfl, sq, dy⟩ := dw_tup dx
    exact ⟨a, ys, rfl, .inr (sqT_same off_sub sq), fun l hl => k l ys _ hl (upd_new (sm_refl H) hl) upd_same (dwa_same (off_new hl) dy)⟩
  · cases e
theorem cutV_nat (xs : List V) (lo hi : Nat) : cutV xs (some (lo : Int)) (some (hi : Int)) = (xs.drop lo).take (hi - lo) := by
  unfold cutV
  rw [HT.sIx_nat, HT.sIx_nat]
  by_cases h : lo ≤ xs.length
  · rw [Nat.min_eq_left h]
    by_cases h2 : hi ≤ xs.length
    · rw [Nat.min_eq_left h2]
    · rw [Nat.min_eq_right (by omega), List.take_of_length_le (by rw [List.length_drop]; omega), List.take_of_length_le (by rw [List.length_drop]; omega)]
  · have e1 : xs.drop lo = [] := List.drop_eq_nil_of_le (by omega)
    have e2 : xs.drop (min lo xs.length) = [] := List.drop_eq_nil_of_le (by omega)
    rw [e1, e2, List.take_nil, List.take_nil]
theorem rf_cut {te : TE} {f : DE} {lo hi : Nat} {l h : Int} (he : RE K te f) (hl : l = (lo : Int) := by rfl) (hh : h = (hi : Int) := by rfl) : RF K (tSl (rSlL K) te (tPart (tC (.int l))) (tPart (tC (.int h)))) (dCut lo hi f) := by
  subst hl hh
  intro H0 P0 P H σ ρ out Q R e k
  obtain ⟨x, e1, e⟩ := Option.bind_eq_some_iff.mp e
  unfold cut at e
  split at e
  · rename_i ds
    cases e
    refine he _ _ _ _ _ _ _ _ R e1 fun v H1 s1 d1 => ?_
    obtain ⟨a, xs, rfl, sq, da⟩ := dw_lst d1
    refine ⟨lo, rfl, hi, rfl, a, xs, rfl, sqL_same off_sub sq, fun p hp => ?_⟩
    rw [cutV_nat]
    exact k p _ _ (s1.free hp) (upd_new s1 hp) upd_same (dwa_same (off_new hp) (dwa_take _ (dwa_drop _ da)))
  · cases e
end
section
variable {X : Cx}
end
end Dn
end
section
set_option Elab.async false
set_option linter.all false
set_option maxRecDepth 100000
set_option maxHeartbeats 1000000
namespace Pb
structure Z (p : Nat) where
  v : Int
  ok : v % (p : Int) = v
namespace Z
variable {p : Nat}
theorem ext {a b : Z p} (h : a.v = b.v) : a = b := by
  cases a; cases b; cases h; rfl
def c (p : Nat) (z : Int) : Z p := ⟨z % p, Int.emod_emod_of_dvd z (Int.dvd_refl _)⟩
theorem c_v (a : Z p) : c p a.v = a := ext a.ok
theorem v_c (z : Int) : (c p z).v = z % p := rfl
theorem c_eq {x y : Int} : c p x = c p y ↔ x % p = y % p :=
  ⟨fun h => congrArg Z.v h, fun h => ext h⟩
instance : Add (Z p) := ⟨fun a b => c p (a.v + b.v)⟩
instance : Mul (Z p) := ⟨fun a b => c p (a.v * b.v)⟩
instance : Neg (Z p) := ⟨fun a => c p (-a.v)⟩
instance : Sub (Z p) := ⟨fun a b => c p (a.v - b.v)⟩
instance : NatCast (Z p) := ⟨fun n => c p (n : Int)⟩
instance : IntCast (Z p) := ⟨fun n => c p n⟩
instance (n : Nat) : OfNat (Z p) n := ⟨c p (n : Int)⟩
instance : SMul Nat (Z p) := ⟨fun n a => (n : Z p) * a⟩
instance : SMul Int (Z p) := ⟨fun n a => (n : Z p) * a⟩
def pw (a : Z p) : Nat → Z p
  | 0 => 1
  | n + 1 => pw a n * a
instance : HPow (Z p) Nat (Z p) := ⟨pw⟩
theorem c_add (x y : Int) : c p (x + y) = c p x + c p y := ext (Int.add_emod x y p)
theorem c_mul (x y : Int) : c p (x * y) = c p x * c p y := ext (Int.mul_emod x y p)
theorem c_sub (x y : Int) : c p (x - y) = c p x - c p y := ext (Int.sub_emod x y p)
theorem c_neg (x : Int) : c p (-x) = - c p x := by
  refine ext ?_
  show (-x) % p = (-(x % p)) % p
  have h := Int.sub_emod 0 x p
  have h2 := Int.sub_emod 0 (x % p) p
  rw [Int.emod_emod_of_dvd x (Int.dvd_refl _)] at h2
  rw [Int.zero_sub] at h h2
  rw [h, h2]
theorem rep (a : Z p) : ∃ z, a = c p z := ⟨a.v, (c_v a).symm⟩
theorem c_zero : c p 0 = 0 := rfl
theorem c_one : c p 1 = 1 := rfl
instance : Lean.Grind.CommRing (Z p) where
  add_zero a := by obtain ⟨x, rfl⟩ := rep a; rw [← c_zero, ← c_add, Int.add_zero]
  add_comm a b := by obtain ⟨x, rfl⟩ := rep a; obtain ⟨y, rfl⟩ := rep b; rw [← c_add, ← c_add, Int.add_comm]
  add_assoc a b d := by obtain ⟨x, rfl⟩ := rep a; obtain ⟨y, rfl⟩ := rep b; obtain ⟨z, rfl⟩ := rep d; simp only [← c_add, Int.add_assoc]
  mul_assoc a b d := by obtain ⟨x, rfl⟩ := rep a; obtain ⟨y, rfl⟩ := rep b; obtain ⟨z, rfl⟩ := rep d; simp only [← c_mul, Int.mul_assoc]
  mul_one a := by obtain ⟨x, rfl⟩ := rep a; rw [← c_one, ← c_mul, Int.mul_one]
  one_mul a := by obtain ⟨x, rfl⟩ := rep a; rw [← c_one, ← c_mul, Int.one_mul]
  left_distrib a b d := by obtain ⟨x, rfl⟩ := rep a; obtain ⟨y, rfl⟩ := rep b; obtain ⟨z, rfl⟩ := rep d; simp only [← c_mul, ← c_add, Int.mul_add]
  right_distrib a b d := by obtain ⟨x, rfl⟩ := rep a; obtain ⟨y, rfl⟩ := rep b; obtain ⟨z, rfl⟩ := rep d; simp only [← c_mul, ← c_add, Int.add_mul]
  zero_mul a := by obtain ⟨x, rfl⟩ := rep a; rw [← c_zero, ← c_mul, Int.zero_mul]
  mul_zero a := by obtain ⟨x, rfl⟩ := rep a; rw [← c_zero, ← c_mul, Int.mul_zero]
  pow_zero a := rfl
  pow_succ a n := rfl
  ofNat_succ a := by
    show c p ((a + 1 : Nat) : Int) = c p (a : Int) + c p ((1 : Nat) : Int)
    rw [← c_add]; rfl
  neg_add_cancel a := by obtain ⟨x, rfl⟩ := rep a; rw [← c_neg, ← c_add, Int.add_left_neg]; rfl
  sub_eq_add_neg a b := by obtain ⟨x, rfl⟩ := rep a; obtain ⟨y, rfl⟩ := rep b; rw [← c_neg, ← c_add, ← c_sub, Int.sub_eq_add_neg]
  neg_zsmul i a := by
    obtain ⟨x, rfl⟩ := rep a
    show c p (-i) * c p x = -(c p i * c p x)
    rw [← c_mul, ← c_mul, ← c_neg, Int.neg_mul]
  intCast_neg i := by show c p (-i) = - c p i; exact c_neg i
  mul_comm a b := by obtain ⟨x, rfl⟩ := rep a; obtain ⟨y, rfl⟩ := rep b; rw [← c_mul, ← c_mul, Int.mul_comm]
theorem eq_zero {x : Int} : c p x = 0 ↔ x % p = 0 := by
  rw [← c_zero, c_eq]; simp
theorem v_zero : (0 : Z p).v = 0 := by show (0 : Int) % p = 0; simp
end Z
def primes : List Nat := [3, 5, 7, 11, 13, 17, 19, 23, 29, 31]
class Pr (p : Nat) : Prop where
  mem : p ∈ primes
theorem undo_ok : ∀ p ∈ primes, ∀ x < p, x ≠ 0 → x * Rb.undo p x % p = 1 := by decide +kernel
theorem undo_lt : ∀ p ∈ primes, ∀ x < p, Rb.undo p x < p := by decide +kernel
theorem undo_zero : ∀ p ∈ primes, Rb.undo p 0 = 0 := by decide +kernel
theorem primeOk_iff (p : Nat) : Wrrayb.primeOk p = true ↔ p ∈ primes := by
  by_cases h : p ≤ 31
  · have : ∀ q < 32, (Wrrayb.primeOk q = true ↔ q ∈ primes) := by decide +kernel
    exact this p (by omega)
  · constructor
    · intro e
      rw [Wrrayb.primeOk, Bool.and_eq_true, Bool.and_eq_true] at e
      have := of_decide_eq_true e.2.1
      unfold Wrrayb.TOP at this
      omega
    · intro e
      simp [primes] at e
      rcases e with e | e | e | e | e | e | e | e | e | e <;> omega
section
variable {p : Nat} [P : Pr p]
theorem p_ge : 3 ≤ p := by have := P.mem; simp [primes] at this; omega
theorem p_le : p ≤ 31 := by have := P.mem; simp [primes] at this; omega
theorem p_pos : 0 < (p : Int) := by have := p_ge (p := p); omega
namespace Z
theorem v_nonneg (a : Z p) : 0 ≤ a.v := by rw [← a.ok]; exact Int.emod_nonneg _ (by have := p_pos (p := p); omega)
theorem v_lt (a : Z p) : a.v < p := by rw [← a.ok]; exact Int.emod_lt_of_pos _ p_pos
instance : Inv (Z p) := ⟨fun a => c p (Rb.undo p a.v.toNat)⟩
instance : Div (Z p) := ⟨fun a b => a * b⁻¹⟩
def zpw (a : Z p) : Int → Z p
  | .ofNat n => a ^ n
  | .negSucc n => (a ^ (n + 1))⁻¹
instance : HPow (Z p) Int (Z p) := ⟨zpw⟩
theorem mul_inv {a : Z p} (h : a ≠ 0) : a * a⁻¹ = 1 := by
  have h1 := v_nonneg a
  have h2 := v_lt a
  have h3 : a.v.toNat ≠ 0 := fun e => h (ext (by rw [v_zero]; omega))
  have := undo_ok p P.mem a.v.toNat (by omega) h3
  have e : (a.v.toNat : Int) = a.v := Int.toNat_of_nonneg h1
  show a * c p (Rb.undo p a.v.toNat) = 1
  rw [← c_v a, ← c_mul]
  show c p _ = c p 1
  rw [c_eq]
  rw [v_c]
  have e2 : a.v % p = a.v := a.ok
  rw [e2, ← e]
  simp only [Int.toNat_natCast]
  have h4 : (1 : Int) % p = 1 := Int.emod_eq_of_lt (by omega) (by have := p_ge (p := p); omega)
  rw [h4]
  exact_mod_cast this
theorem inv_zero : (0 : Z p)⁻¹ = 0 := by
  show c p (Rb.undo p (0 : Z p).v.toNat) = 0
  rw [v_zero]
  show c p ((Rb.undo p 0 : Nat) : Int) = 0
  rw [undo_zero p P.mem]; rfl
theorem zero_ne_one : (0 : Z p) ≠ 1 := fun h => by
  have e : (0 : Int) % p = 1 % p := c_eq.mp h
  rw [Int.emod_eq_of_lt (a := 1) (by omega) (by have := p_ge (p := p); omega)] at e
  simp at e
theorem inv_inv_ (a : Z p) : (a⁻¹)⁻¹ = a := by
  by_cases h : a = 0
  · subst h; rw [inv_zero, inv_zero]
  · have h1 := mul_inv h
    have h2 : a⁻¹ ≠ 0 := fun e => by
      rw [e] at h1
      exact zero_ne_one ((Lean.Grind.Semiring.mul_zero a).symm.trans h1)
    have h3 := mul_inv h2
    grind
theorem one_inv : (1 : Z p)⁻¹ = 1 := by
  have := mul_inv (p := p) (a := 1) (fun h => zero_ne_one h.symm)
  grind
instance : Lean.Grind.Field (Z p) where
  div_eq_mul_inv a b := rfl
  zero_ne_one := zero_ne_one
  inv_zero := inv_zero
  mul_inv_cancel := mul_inv
  zpow_zero a := rfl
  zpow_succ a n := rfl
  zpow_neg a n := by
    match n with
    | .ofNat 0 => exact one_inv.symm
    | .ofNat (n + 1) => rfl
    | .negSucc n => exact (inv_inv_ _).symm
end Z
end
end Pb
end
section
set_option Elab.async false
set_option linter.all false
set_option maxRecDepth 100000
set_option maxHeartbeats 1000000
namespace Pb
open Z
instance {p : Nat} : DecidableEq (Z p) := fun a b => decidable_of_iff (a.v = b.v) ⟨Z.ext, congrArg Z.v⟩
def zr (p : Nat) (v : List Nat) : List (Z p) := v.map fun (x : Nat) => c p (x : Int)
def zi (p : Nat) (v : List Int) : List (Z p) := v.map (c p)
def lift {p : Nat} (l : List (Z p)) : List Int := l.map (·.v)
def leadZ {p : Nat} : List (Z p) → Z p
  | [] => 0
  | a :: l => if a = 0 then leadZ l else a
theorem lift_inj {p : Nat} {l m : List (Z p)} (h : lift l = lift m) : l = m := by
  have : ∀ l : List (Z p), zi p (lift l) = l := fun l => by
    induction l with
    | nil => rfl
    | cons a l ih =>
      show c p a.v :: zi p (lift l) = _
      rw [c_v, ih]
  rw [← this l, h, this m]
theorem zi_lift {p : Nat} (l : List (Z p)) : zi p (lift l) = l := by
  induction l with
  | nil => rfl
  | cons a l ih =>
    show c p a.v :: zi p (lift l) = _
    rw [c_v, ih]
section
variable {p : Nat} [P : Pr p]
def formZ (l : List (Z p)) : List (Z p) := l.map (· * (leadZ l)⁻¹)
theorem c_nat_v (x : Nat) : (c p (x : Int)).v = ((x % p : Nat) : Int) := by
  rw [v_c]; exact_mod_cast rfl
theorem c_nat_zero {x : Nat} : c p (x : Int) = 0 ↔ x % p = 0 := by
  rw [eq_zero]; omega
theorem lead_v (v : List Nat) : ((Rb.lead p v : Nat) : Int) = (leadZ (zr p v)).v := by
  unfold Rb.lead Rb.reduced
  induction v with
  | nil => simp [zr, leadZ, v_zero]
  | cons x v ih =>
    show _ = (if c p (x : Int) = 0 then leadZ (zr p v) else c p (x : Int)).v
    rw [List.map_cons, List.find?_cons]
    by_cases h : x % p = 0
    · rw [if_pos (c_nat_zero.mpr h)]
      simp only [h, bne_self_eq_false]
      exact ih
    · rw [if_neg (fun e => h (c_nat_zero.mp e)), c_nat_v]
      have : (x % p != 0) = true := by simp [h]
      rw [this]; rfl
theorem inv_v (a : Z p) : (a⁻¹).v = ((Rb.undo p a.v.toNat : Nat) : Int) := by
  show (c p (Rb.undo p a.v.toNat : Nat)).v = _
  rw [c_nat_v, Nat.mod_eq_of_lt (undo_lt p P.mem _ (by have := v_nonneg a; have := v_lt a; omega))]
theorem form_v (v : List Nat) : WrraybNeutral.rowT (Rb.form p v) = lift (formZ (zr p v)) := by
  have e : (Rb.undo p (Rb.lead p v) : Nat) = (((leadZ (zr p v))⁻¹).v) := by
    rw [inv_v, ← lead_v]; simp
  unfold Rb.form formZ lift zr WrraybNeutral.rowT
  simp only [List.map_map]
  refine List.map_congr_left fun x _ => ?_
  show ((x % p * Rb.undo p (Rb.lead p v) % p : Nat) : Int) = (c p ((c p (x : Int)).v * ((leadZ (zr p v))⁻¹).v)).v
  rw [v_c, ← e, c_nat_v]
  exact_mod_cast rfl
theorem leadZ_ne {l : List (Z p)} : leadZ l ≠ 0 ↔ ∃ a ∈ l, a ≠ 0 := by
  induction l with
  | nil => simp [leadZ]
  | cons a l ih =>
    unfold leadZ
    split
    · rename_i h
      rw [ih]; simp [h]
    · rename_i h
      simp [h]
theorem leadZ_scale {k : Z p} (hk : k ≠ 0) (l : List (Z p)) : leadZ (l.map (k * ·)) = k * leadZ l := by
  induction l with
  | nil => simp [leadZ]; grind
  | cons a l ih =>
    simp only [List.map_cons, leadZ]
    by_cases h : a = 0
    · rw [if_pos (show k * a = 0 by grind), if_pos h, ih]
    · rw [if_neg (show k * a ≠ 0 by grind), if_neg h]
theorem formZ_scale {k : Z p} (hk : k ≠ 0) (l : List (Z p)) : formZ (l.map (k * ·)) = formZ l := by
  unfold formZ
  rw [leadZ_scale hk, List.map_map]
  refine List.map_congr_left fun a _ => ?_
  show (k * a) * (k * leadZ l)⁻¹ = a * (leadZ l)⁻¹
  by_cases h : leadZ l = 0
  · have e : k * leadZ l = 0 := by grind
    rw [e, h, inv_zero]; grind
  · grind
theorem formZ_of {l : List (Z p)} (h : leadZ l ≠ 0) : l = (formZ l).map (leadZ l * ·) := by
  unfold formZ
  rw [List.map_map]
  have : ∀ a : Z p, (leadZ l) * (a * (leadZ l)⁻¹) = a := fun a => by grind
  conv => lhs; rw [← List.map_id l]
  exact List.map_congr_left fun a _ => (this a).symm
theorem formZ_eq {l m : List (Z p)} (h1 : leadZ l ≠ 0) (h2 : leadZ m ≠ 0) (h : formZ l = formZ m) : ∃ k : Z p, k ≠ 0 ∧ m = l.map (k * ·) := by
  refine ⟨leadZ m * (leadZ l)⁻¹, by grind, ?_⟩
  have e1 := formZ_of h2
  rw [← h] at e1
  unfold formZ at e1
  rw [List.map_map] at e1
  rw [e1]
  have : leadZ (List.map ((fun x => leadZ m * x) ∘ fun x => x * (leadZ l)⁻¹) l) = leadZ m := by rw [← e1]
  rw [this]
  refine List.map_congr_left fun a _ => ?_
  show leadZ m * (a * (leadZ l)⁻¹) = leadZ m * (leadZ l)⁻¹ * a
  grind
theorem leadZ_form {l : List (Z p)} (h : leadZ l ≠ 0) : leadZ (formZ l) = 1 := by
  have h2 : (leadZ l)⁻¹ ≠ 0 := by
    intro e
    have := mul_inv h
    rw [e] at this
    exact zero_ne_one ((Lean.Grind.Semiring.mul_zero _).symm.trans this)
  have : formZ l = l.map ((leadZ l)⁻¹ * ·) := by
    unfold formZ
    exact List.map_congr_left fun a _ => by grind
  rw [this, leadZ_scale h2]
  grind
theorem formZ_form {l : List (Z p)} (h : leadZ l ≠ 0) : formZ (formZ l) = formZ l := by
  have e := leadZ_form h
  show (formZ l).map (· * (leadZ (formZ l))⁻¹) = formZ l
  rw [e, one_inv]
  conv => rhs; rw [← List.map_id (formZ l)]
  exact List.map_congr_left fun a _ => by show a * 1 = a; grind
def sim (l m : List (Z p)) : Prop := ∃ k : Z p, k ≠ 0 ∧ m = l.map (k * ·)
theorem formZ_iff {l m : List (Z p)} (h1 : leadZ l ≠ 0) (h2 : leadZ m ≠ 0) : formZ l = formZ m ↔ sim l m :=
  ⟨formZ_eq h1 h2, fun ⟨k, hk, e⟩ => by rw [e, formZ_scale hk]⟩
theorem rowT_inj {v w : List Nat} (h : WrraybNeutral.rowT v = WrraybNeutral.rowT w) : v = w := by
  unfold WrraybNeutral.rowT at h
  exact (List.map_inj_right (f := WrraybNeutral.n) (fun a b h => by unfold WrraybNeutral.n at h; omega)).mp h
theorem same_iff {v w : List Nat} : Rb.same p v w = true ↔ formZ (zr p v) = formZ (zr p w) := by
  unfold Rb.same
  rw [beq_iff_eq]
  constructor
  · intro h
    have := congrArg WrraybNeutral.rowT h
    rw [form_v, form_v] at this
    exact lift_inj this
  · intro h
    refine rowT_inj ?_
    rw [form_v, form_v, h]
theorem zr_form (v : List Nat) : zr p (Rb.form p v) = formZ (zr p v) := by
  have := congrArg (zi p) (form_v (p := p) v)
  rw [zi_lift] at this
  rw [← this]
  unfold zr zi WrraybNeutral.rowT
  rw [List.map_map]; rfl
theorem flat_get {α : Type} {m : Nat} (hm : 0 < m) (g : Nat → List α) (hg : ∀ k, (g k).length = m) : ∀ (n i : Nat), ((List.range n).flatMap g)[i]? = if i < n * m then (g (i / m))[i % m]? else none
  | 0, i => by simp
  | n + 1, i => by
    have hl : ((List.range n).flatMap g).length = n * m := by
      clear i
      induction n with
      | zero => simp
      | succ n ih => rw [List.range_succ, List.flatMap_append, List.length_append, ih]; simp [hg]; rw [Nat.succ_mul]
    rw [List.range_succ, List.flatMap_append]
    by_cases h : i < n * m
    · rw [List.getElem?_append_left (by rw [hl]; exact h), flat_get hm g hg n i, if_pos h, if_pos (by rw [Nat.succ_mul]; omega)]
    · rw [List.getElem?_append_right (by rw [hl]; omega), hl]
      simp only [List.flatMap_cons, List.flatMap_nil, List.append_nil]
      by_cases h2 : i < (n + 1) * m
      · rw [if_pos h2]
        rw [Nat.succ_mul] at h2
        have e1 : i / m = n := by
          refine Nat.div_eq_of_lt_le (by omega) ?_
          rw [Nat.succ_mul]; omega
        have e2 : i % m = i - n * m := by
          have := Nat.div_add_mod i m
          rw [e1, Nat.mul_comm m n] at this
          omega
        rw [e1, e2]
      · rw [if_neg h2]
        rw [Nat.succ_mul] at h2
        exact List.getElem?_eq_none (by rw [hg]; omega)
def pointAt (p i : Nat) : List Nat := if i = 0 then [0, 0, 1] else if i ≤ p then [0, 1, i - 1] else [1, (i - 1 - p) / p, (i - 1 - p) % p]
theorem points_get (i : Nat) : (Rb.points p)[i]? = if i < p * p + p + 1 then some (pointAt p i) else none := by
  have hp := p_ge (p := p)
  unfold Rb.points pointAt
  cases i with
  | zero => simp
  | succ i =>
    rw [List.getElem?_cons_succ]
    by_cases h : i < p
    · rw [List.getElem?_append_left (by simpa using h)]
      rw [if_pos (by omega), if_neg (by omega), if_pos (by omega)]
      simp [h]
    · rw [List.getElem?_append_right (by simp; omega)]
      simp only [List.length_map, List.length_range]
      rw [flat_get (m := p) (by omega) _ (fun k => by simp)]
      rw [if_neg (show ¬ (i + 1 = 0) by omega), if_neg (show ¬ (i + 1 ≤ p) by omega)]
      have e : i + 1 - 1 - p = i - p := by omega
      rw [e]
      by_cases h2 : i - p < p * p
      · rw [if_pos h2, if_pos (by omega)]
        have : (i - p) % p < p := Nat.mod_lt _ (by omega)
        simp [this]
      · rw [if_neg h2, if_neg (by omega)]
theorem points_length : (Rb.points p).length = p * p + p + 1 := by
  have h1 := points_get (p := p) (p * p + p)
  have h2 := points_get (p := p) (p * p + p + 1)
  rw [if_pos (by omega)] at h1
  rw [if_neg (by omega)] at h2
  have := (List.getElem?_eq_some_iff.mp h1).1
  have := List.getElem?_eq_none_iff.mp h2
  omega
theorem mem_points {v : List Nat} : v ∈ Rb.points p ↔ (v = [0, 0, 1] ∨ (∃ d, d < p ∧ v = [0, 1, d]) ∨ ∃ b d, b < p ∧ d < p ∧ v = [1, b, d]) := by
  unfold Rb.points
  simp only [List.mem_cons, List.mem_append, List.mem_map, List.mem_range, List.mem_flatMap]
  constructor
  · rintro (h | ⟨d, h1, h2⟩ | ⟨b, h1, d, h2, h3⟩)
    · exact .inl h
    · exact .inr (.inl ⟨d, h1, h2.symm⟩)
    · exact .inr (.inr ⟨b, d, h1, h2, h3.symm⟩)
  · rintro (h | ⟨d, h1, h2⟩ | ⟨b, d, h1, h2, h3⟩)
    · exact .inl h
    · exact .inr (.inl ⟨d, h1, h2.symm⟩)
    · exact .inr (.inr ⟨b, h1, d, h2, h3.symm⟩)
theorem formZ_shapes (x y z : Z p) (h : leadZ [x, y, z] ≠ 0) : (∃ b d, formZ [x, y, z] = [1, b, d]) ∨ (∃ d, formZ [x, y, z] = [0, 1, d]) ∨ formZ [x, y, z] = [0, 0, 1] := by
  by_cases hx : x = 0
  · by_cases hy : y = 0
    · by_cases hz : z = 0
      · subst hx hy hz; simp [leadZ] at h
      · refine .inr (.inr ?_)
        simp only [formZ, leadZ, hx, hy, hz, if_true, if_false, List.map_cons, List.map_nil]
        have h1 : z * z⁻¹ = 1 := mul_inv hz
        have h2 : (0 : Z p) * z⁻¹ = 0 := Lean.Grind.Semiring.zero_mul _
        rw [h1, h2]
    · refine .inr (.inl ⟨z * y⁻¹, ?_⟩)
      simp only [formZ, leadZ, hx, hy, if_true, if_false, List.map_cons, List.map_nil]
      have h1 : y * y⁻¹ = 1 := mul_inv hy
      have h2 : (0 : Z p) * y⁻¹ = 0 := Lean.Grind.Semiring.zero_mul _
      rw [h1, h2]
  · refine .inl ⟨y * x⁻¹, z * x⁻¹, ?_⟩
    simp only [formZ, leadZ, hx, if_false, List.map_cons, List.map_nil]
    rw [show x * x⁻¹ = 1 from mul_inv hx]
theorem len3 {α : Type} {l : List α} (h : l.length = 3) : ∃ a b d, l = [a, b, d] := by
  match l, h with
  | [a, b, d], _ => exact ⟨a, b, d, rfl⟩
theorem v_one : (1 : Z p).v = 1 := by
  show (1 : Int) % p = 1
  exact Int.emod_eq_of_lt (by omega) (by have := p_ge (p := p); omega)
theorem form_mem {v : List Nat} (hl : v.length = 3) (h : leadZ (zr p v) ≠ 0) : Rb.form p v ∈ Rb.points p := by
  obtain ⟨x, y, z, rfl⟩ := len3 hl
  have e := form_v (p := p) [x, y, z]
  rw [mem_points]
  have key : ∀ (r : List (Z p)) (w : List Nat), formZ (zr p [x, y, z]) = r → lift r = WrraybNeutral.rowT w → Rb.form p [x, y, z] = w := fun r w h1 h2 => rowT_inj (by rw [e, h1, h2])
  have nn : ∀ a : Z p, ∃ n : Nat, n < p ∧ a.v = (n : Int) := fun a => ⟨a.v.toNat, by have := v_nonneg a; have := v_lt a; omega, by have := v_nonneg a; omega⟩
  rcases formZ_shapes (c p (x : Int)) (c p (y : Int)) (c p (z : Int)) h with ⟨b, d, q⟩ | ⟨d, q⟩ | q
  · obtain ⟨n1, l1, e1⟩ := nn b
    obtain ⟨n2, l2, e2⟩ := nn d
    refine .inr (.inr ⟨n1, n2, l1, l2, key _ _ q ?_⟩)
    simp [lift, WrraybNeutral.rowT, WrraybNeutral.n, e1, e2, v_one]
  · obtain ⟨n2, l2, e2⟩ := nn d
    refine .inr (.inl ⟨n2, l2, key _ _ q ?_⟩)
    simp [lift, WrraybNeutral.rowT, WrraybNeutral.n, e2, v_one, v_zero]
  · refine .inl (key _ _ q ?_)
    simp [lift, WrraybNeutral.rowT, WrraybNeutral.n, v_one, v_zero]
end
end Pb
end
section
set_option Elab.async false
set_option linter.all false
set_option maxRecDepth 100000
set_option maxHeartbeats 1000000
namespace Pb
open WrraybNeutral (nats told)
open Wrrayb (Answer primeOk isPoint isConic orNo smooth)
open Rb (isMap)
abbrev gate (b : Bool) (a : Answer) : List Int := told (if b = true then a else .no (-1))
theorem sp_fixed (p : Int) (m : List Int) : PyWrrayb.fixed p m = gate (primeOk p.toNat && isMap p.toNat (nats m)) (.fixed (Rb.fixed p.toNat (nats m))) := rfl
end Pb
end
section
set_option Elab.async false
set_option linter.all false
set_option maxRecDepth 100000
set_option maxHeartbeats 1000000
namespace Pb
open Z
def az {p : Nat} (l : List (Z p)) (i : Nat) : Z p := l.getD i 0
def dotZ {p : Nat} (l m : List (Z p)) : Z p := (List.zipWith (· * ·) l m).foldr (· + ·) 0
def joinZ {p : Nat} (x y : List (Z p)) : List (Z p) := [az x 1 * az y 2 - az x 2 * az y 1, az x 2 * az y 0 - az x 0 * az y 2, az x 0 * az y 1 - az x 1 * az y 0]
def rowZ {p : Nat} (m : List (Z p)) (i : Nat) : List (Z p) := (m.drop (3 * i)).take 3
def applyZ {p : Nat} (m x : List (Z p)) : List (Z p) := [dotZ (rowZ m 0) x, dotZ (rowZ m 1) x, dotZ (rowZ m 2) x]
def cofZ {p : Nat} (m : List (Z p)) : List (List (Z p)) := [joinZ (rowZ m 1) (rowZ m 2), joinZ (rowZ m 2) (rowZ m 0), joinZ (rowZ m 0) (rowZ m 1)]
def adjZ {p : Nat} (m : List (Z p)) : List (Z p) := (List.range 3).flatMap fun i => (cofZ m).map fun r => az r i
def detZ {p : Nat} (m : List (Z p)) : Z p := dotZ (rowZ m 0) (joinZ (rowZ m 1) (rowZ m 2))
section
variable {p : Nat}
theorem az_zr (v : List Nat) (i : Nat) : az (zr p v) i = c p (Rb.at_ v i : Nat) := by
  unfold az zr Rb.at_
  rw [List.getD_eq_getElem?_getD, List.getD_eq_getElem?_getD, List.getElem?_map]
  cases v[i]? <;> rfl
theorem c_nmod (x : Nat) : c p ((x % p : Nat) : Int) = c p (x : Int) := by
  rw [c_eq, Int.natCast_emod, Int.emod_emod_of_dvd _ (Int.dvd_refl _)]
theorem c_nadd (x y : Nat) : c p ((x + y : Nat) : Int) = c p (x : Int) + c p (y : Int) := by rw [Int.natCast_add, c_add]
theorem c_nmul (x y : Nat) : c p ((x * y : Nat) : Int) = c p (x : Int) * c p (y : Int) := by rw [Int.natCast_mul, c_mul]
theorem c_dot (v w : List Nat) : c p (Rb.dot v w : Nat) = dotZ (zr p v) (zr p w) := by
  unfold Rb.dot dotZ Rb.sum
  induction v generalizing w with
  | nil => rfl
  | cons x v ih =>
    cases w with
    | nil => rfl
    | cons y w =>
      show c p ((x * y + (List.zipWith _ v w).foldr _ 0 : Nat) : Int) = c p (x : Int) * c p (y : Int) + _
      rw [c_nadd, c_nmul, ih w]
      rfl
theorem zr_row (m : List Nat) (i : Nat) : zr p (Rb.rowOf m i) = rowZ (zr p m) i := by
  unfold Rb.rowOf rowZ zr
  rw [List.map_take, List.map_drop]
theorem zr_cons (a : Nat) (l : List Nat) : zr p (a :: l) = c p (a : Int) :: zr p l := rfl
theorem zr_nil : zr p [] = [] := rfl
theorem zr_len (l : List Nat) : (zr p l).length = l.length := by simp [zr]
theorem zr_apply (m x : List Nat) : zr p (Rb.apply p m x) = applyZ (zr p m) (zr p x) := by
  unfold Rb.apply applyZ
  simp only [zr_cons, zr_nil, c_nmod, c_dot, zr_row]
end
section
variable {p : Nat} [P : Pr p]
theorem c_p : c p (p : Int) = 0 := by rw [eq_zero]; exact Int.emod_self
theorem c_less (x y : Nat) : c p (Rb.less p x y : Nat) = c p (x : Int) - c p (y : Int) := by
  have hp := p_ge (p := p)
  unfold Rb.less Rb.neg
  have h : y % p < p := Nat.mod_lt _ (by omega)
  have e : ((p - y % p : Nat) : Int) = (p : Int) - ((y % p : Nat) : Int) := by omega
  rw [c_nmod, c_nadd, c_nmod, e, c_sub, c_p, c_nmod]
  grind
theorem zr_join (x y : List Nat) : zr p (Rb.join p x y) = joinZ (zr p x) (zr p y) := by
  unfold Rb.join joinZ
  simp only [zr_cons, zr_nil, c_less, c_nmul, az_zr]
theorem c_det (m : List Nat) : c p (Rb.det p m : Nat) = detZ (zr p m) := by
  unfold Rb.det detZ
  rw [c_nmod, c_dot, zr_row, zr_join, zr_row, zr_row]
theorem nat_eq {x y : Nat} (hx : x < p) (hy : y < p) (h : c p (x : Int) = c p (y : Int)) : x = y := by
  have := c_eq.mp h
  have e1 : (x : Int) % p = x := Int.emod_eq_of_lt (by omega) (by omega)
  have e2 : (y : Int) % p = y := Int.emod_eq_of_lt (by omega) (by omega)
  omega
theorem c_zero_iff {x : Nat} (hx : x < p) : c p (x : Int) = 0 ↔ x = 0 := by
  constructor
  · intro h
    exact nat_eq hx (by have := p_ge (p := p); omega) (h.trans rfl)
  · intro h; subst h; rfl
theorem mod_lt_ (x : Nat) : x % p < p := Nat.mod_lt _ (by have := p_ge (p := p); omega)
theorem det_lt (m : List Nat) : Rb.det p m < p := mod_lt_ _
theorem isMap_eq (m : List Nat) : Rb.isMap p m = (decide (m.length = 9) && decide (detZ (zr p m) ≠ 0)) := by
  unfold Rb.isMap
  have : (Rb.det p m != 0) = decide (detZ (zr p m) ≠ 0) := by
    rw [← c_det]
    by_cases h : Rb.det p m = 0
    · simp [h, c_zero]
    · simp [h, c_zero_iff (det_lt m)]
  rw [this]
  congr 1
theorem on_eq (x l : List Nat) : Rb.on p x l = decide (dotZ (zr p x) (zr p l) = 0) := by
  unfold Rb.on
  rw [← c_dot]
  by_cases h : Rb.dot x l % p = 0
  · simp [h, c_nat_zero]
  · simp [h, c_nat_zero]
theorem lead3 {x y z : Z p} : leadZ [x, y, z] = 0 ↔ x = 0 ∧ y = 0 ∧ z = 0 := by
  constructor
  · intro h
    have : ¬ ∃ a ∈ [x, y, z], a ≠ 0 := fun e => leadZ_ne.mpr e h
    simp at this
    exact ⟨this.1, this.2.1, this.2.2⟩
  · rintro ⟨rfl, rfl, rfl⟩; simp [leadZ]
theorem sim_join {x y : List (Z p)} (hx : x.length = 3) (hy : y.length = 3) (nx : leadZ x ≠ 0) (ny : leadZ y ≠ 0) : formZ x = formZ y ↔ joinZ x y = [0, 0, 0] := by
  obtain ⟨a, b, d, rfl⟩ := len3 hx
  obtain ⟨e, f, g, rfl⟩ := len3 hy
  rw [formZ_iff nx ny]
  simp only [joinZ, az, List.getD_cons_zero, List.getD_cons_succ, List.cons.injEq, and_true]
  constructor
  · rintro ⟨k, hk, h⟩
    simp only [List.map_cons, List.map_nil, List.cons.injEq, and_true] at h
    obtain ⟨h1, h2, h3⟩ := h
    subst h1 h2 h3
    refine ⟨by grind, by grind, by grind⟩
  · rintro ⟨h1, h2, h3⟩
    by_cases ha : a = 0
    · by_cases hb : b = 0
      · have hd : d ≠ 0 := by
          intro hd; subst ha hb hd; exact nx (by simp [leadZ])
        have he : e = 0 := by grind
        have hf : f = 0 := by grind
        have hg : g ≠ 0 := by
          intro hg; subst he hf hg; exact ny (by simp [leadZ])
        refine ⟨g * d⁻¹, by grind, ?_⟩
        simp only [List.map_cons, List.map_nil, List.cons.injEq, and_true]
        refine ⟨by grind, by grind, by grind⟩
      · have he : e = 0 := by grind
        have hf : f ≠ 0 := by
          intro hf
          have hg : g = 0 := by grind
          subst he hf hg; exact ny (by simp [leadZ])
        refine ⟨f * b⁻¹, by grind, ?_⟩
        simp only [List.map_cons, List.map_nil, List.cons.injEq, and_true]
        refine ⟨by grind, by grind, by grind⟩
    · have he : e ≠ 0 := by
        intro he
        have hf : f = 0 := by grind
        have hg : g = 0 := by grind
        subst he hf hg; exact ny (by simp [leadZ])
      refine ⟨e * a⁻¹, by grind, ?_⟩
      simp only [List.map_cons, List.map_nil, List.cons.injEq, and_true]
      refine ⟨by grind, by grind, by grind⟩
end
end Pb
end
section
set_option Elab.async false
set_option linter.all false
set_option maxRecDepth 100000
set_option maxHeartbeats 1000000
namespace Pb
structure M3 (α : Type) where
  a : α
  b : α
  c : α
  d : α
  e : α
  f : α
  g : α
  h : α
  i : α
namespace M3
section
variable {α : Type} [Lean.Grind.Field α]
def mul (m n : M3 α) : M3 α := ⟨m.a * n.a + m.b * n.d + m.c * n.g, m.a * n.b + m.b * n.e + m.c * n.h, m.a * n.c + m.b * n.f + m.c * n.i,
  m.d * n.a + m.e * n.d + m.f * n.g, m.d * n.b + m.e * n.e + m.f * n.h, m.d * n.c + m.e * n.f + m.f * n.i,
  m.g * n.a + m.h * n.d + m.i * n.g, m.g * n.b + m.h * n.e + m.i * n.h, m.g * n.c + m.h * n.f + m.i * n.i⟩
def one : M3 α := ⟨1, 0, 0, 0, 1, 0, 0, 0, 1⟩
def sc (k : α) (m : M3 α) : M3 α := ⟨k * m.a, k * m.b, k * m.c, k * m.d, k * m.e, k * m.f, k * m.g, k * m.h, k * m.i⟩
def det (m : M3 α) : α := m.a * (m.e * m.i - m.f * m.h) + m.b * (m.f * m.g - m.d * m.i) + m.c * (m.d * m.h - m.e * m.g)
def tr (m : M3 α) : α := m.a + m.e + m.i
def c2 (m : M3 α) : α := m.e * m.i - m.f * m.h + m.a * m.i - m.c * m.g + m.a * m.e - m.b * m.d
theorem ext {m n : M3 α} (h1 : m.a = n.a) (h2 : m.b = n.b) (h3 : m.c = n.c) (h4 : m.d = n.d) (h5 : m.e = n.e) (h6 : m.f = n.f) (h7 : m.g = n.g) (h8 : m.h = n.h) (h9 : m.i = n.i) : m = n := by
  cases m; cases n; simp_all
theorem mul_assoc (m n k : M3 α) : mul (mul m n) k = mul m (mul n k) := by
  apply ext <;> simp only [mul] <;> grind
theorem one_mul (m : M3 α) : mul one m = m := by apply ext <;> simp only [mul, one] <;> grind
theorem mul_one (m : M3 α) : mul m one = m := by apply ext <;> simp only [mul, one] <;> grind
def nxt (m : M3 α) (v : α × α × α) : α × α × α := (det m * v.2.2, v.1 - c2 m * v.2.2, v.2.1 + tr m * v.2.2)
def co (m : M3 α) : Nat → α × α × α
  | 0 => (1, 0, 0)
  | n + 1 => nxt m (co m n)
end
end M3
section
variable {p : Nat} [P : Pr p]
open Z
end
end Pb
end
section
set_option Elab.async false
set_option linter.all false
set_option maxRecDepth 100000
noncomputable section
namespace Pb
open L2 Dn
open PySem.W (WData)
def gd_ODD_PRIMES : WData := .tuple (([3, 5, 7, 11, 13, 17, 19, 23, 29, 31] : List Int).map .int)
def gd_IDENTITY : WData := .tuple (([1, 0, 0, 0, 1, 0, 0, 0, 1] : List Int).map .int)
def d_first_not_zero : List WData → Option WData := body 3
  (sSeq (sFor 2 (dVar 1)
  (sIf (dTest (dOp hNe (dOp hMod (dVar 2) (dVar 0)) (dC (.int 0))))
  (sRet (dOp hMod (dVar 2) (dVar 0)))
  sNil))
  (sRet (dC (.int 0))))
def d_inverse : List WData → Option WData := body 4
  (sSeq (sSet 2 (dC (.int 1)))
  (sSeq (sForR 3 (dCons (dOp hSub (dVar 0) (dC (.int 2))) dNil)
  (sSet 2 (dOp hMod (dOp hMul (dVar 2) (dVar 1)) (dVar 0))))
  (sRet (dVar 2))))
def d_form_of : List WData → Option WData := body 4
  (sSeq (sSet 2 (dCall d_inverse (dCons (dVar 0) (dCons (dCall d_first_not_zero (dCons (dVar 0) (dCons (dVar 1) dNil))) dNil))))
  (sRet (dL (dLc 3 [3] (dVar 1) dYes (dOp hMod (dOp hMul (dVar 2) (dVar 3)) (dVar 0))))))
def d_all_points : List WData → Option WData := body 3
  (sRet (dL (dCat (dL (dCat (dL (dCons (dL (dCons (dC (.int 0)) (dCons (dC (.int 0)) (dCons (dC (.int 1)) dNil)))) dNil)) (dL (dLcR 2 [2] (dCons (dVar 0) dNil) dYes (dL (dCons (dC (.int 0)) (dCons (dC (.int 1)) (dCons (dVar 2) dNil)))))))) (dL (dLcR 1 [1] (dCons (dOp hMul (dVar 0) (dVar 0)) dNil) dYes (dL (dCons (dC (.int 1)) (dCons (dOp hDiv (dVar 1) (dVar 0)) (dCons (dOp hMod (dVar 1) (dVar 0)) dNil)))))))))
def d_dot : List WData → Option WData := body 3
  (sRet (dOp hMod (dOp hAdd (dOp hAdd (dOp hMul (dOp hIx (dVar 1) (dC (.int 0))) (dOp hIx (dVar 2) (dC (.int 0)))) (dOp hMul (dOp hIx (dVar 1) (dC (.int 1))) (dOp hIx (dVar 2) (dC (.int 1))))) (dOp hMul (dOp hIx (dVar 1) (dC (.int 2))) (dOp hIx (dVar 2) (dC (.int 2))))) (dVar 0)))
def d_joined : List WData → Option WData := body 3
  (sRet (dL (dCons (dOp hMod (dOp hSub (dOp hMul (dOp hIx (dVar 1) (dC (.int 1))) (dOp hIx (dVar 2) (dC (.int 2)))) (dOp hMul (dOp hIx (dVar 1) (dC (.int 2))) (dOp hIx (dVar 2) (dC (.int 1))))) (dVar 0)) (dCons (dOp hMod (dOp hSub (dOp hMul (dOp hIx (dVar 1) (dC (.int 2))) (dOp hIx (dVar 2) (dC (.int 0)))) (dOp hMul (dOp hIx (dVar 1) (dC (.int 0))) (dOp hIx (dVar 2) (dC (.int 2))))) (dVar 0)) (dCons (dOp hMod (dOp hSub (dOp hMul (dOp hIx (dVar 1) (dC (.int 0))) (dOp hIx (dVar 2) (dC (.int 1)))) (dOp hMul (dOp hIx (dVar 1) (dC (.int 1))) (dOp hIx (dVar 2) (dC (.int 0))))) (dVar 0)) dNil)))))
def d_are_same : List WData → Option WData := body 3
  (sRet (dOp hEq (dCall d_first_not_zero (dCons (dVar 0) (dCons (dCall d_joined (dCons (dVar 0) (dCons (dVar 1) (dCons (dVar 2) dNil)))) dNil))) (dC (.int 0))))
def d_determinant : List WData → Option WData := body 2
  (sRet (dCall d_dot (dCons (dVar 0) (dCons (dCall d_joined (dCons (dVar 0) (dCons (dL (dCut 0 3 (dVar 1))) (dCons (dL (dCut 3 6 (dVar 1))) dNil)))) (dCons (dL (dCut 6 9 (dVar 1))) dNil)))))
def d_mixed : List WData → Option WData := body 6
  (sRet (dL (dLcR 5 [5] (dCons (dCall fLen (dCons (dVar 2) dNil)) dNil) dYes (dOp hMod (dOp hAdd (dOp hMul (dVar 1) (dOp hIx (dVar 2) (dVar 5))) (dOp hMul (dVar 3) (dOp hIx (dVar 4) (dVar 5)))) (dVar 0)))))
def d_rows_of : List WData → Option WData := body 1
  (sRet (dL (dCons (dL (dCut 0 3 (dVar 0))) (dCons (dL (dCut 3 6 (dVar 0))) (dCons (dL (dCut 6 9 (dVar 0))) dNil)))))
def d_transposed : List WData → Option WData := body 2
  (sRet (dL (dLcR 1 [1] (dCons (dC (.int 9)) dNil) dYes (dOp hIx (dVar 0) (dOp hAdd (dOp hMul (dC (.int 3)) (dOp hMod (dVar 1) (dC (.int 3)))) (dOp hDiv (dVar 1) (dC (.int 3))))))))
def d_undone : List WData → Option WData := body 3
  (sSeq (sSet 2 (dCall d_rows_of (dCons (dVar 1) dNil)))
  (sRet (dCall d_transposed (dCons (dL (dCat (dL (dCat (dCall d_joined (dCons (dVar 0) (dCons (dOp hIx (dVar 2) (dC (.int 1))) (dCons (dOp hIx (dVar 2) (dC (.int 2))) dNil)))) (dCall d_joined (dCons (dVar 0) (dCons (dOp hIx (dVar 2) (dC (.int 2))) (dCons (dOp hIx (dVar 2) (dC (.int 0))) dNil)))))) (dCall d_joined (dCons (dVar 0) (dCons (dOp hIx (dVar 2) (dC (.int 0))) (dCons (dOp hIx (dVar 2) (dC (.int 1))) dNil)))))) dNil))))
def d_is_map : List WData → Option WData := body 2
  (sRet (dAndV (dOp hEq (dCall fLen (dCons (dVar 1) dNil)) (dC (.int 9))) (dOp hNe (dCall d_determinant (dCons (dVar 0) (dCons (dVar 1) dNil))) (dC (.int 0)))))
def d_applied : List WData → Option WData := body 4
  (sRet (dL (dLc 3 [3] (dCall d_rows_of (dCons (dVar 1) dNil)) dYes (dCall d_dot (dCons (dVar 0) (dCons (dVar 3) (dCons (dVar 2) dNil)))))))
def d_leaves_all : List WData → Option WData := body 2
  (sRet (dOp hEqL (dCall d_form_of (dCons (dVar 0) (dCons (dVar 1) dNil))) (dL (dNew fListOf (dCons (dC gd_IDENTITY) dNil)))))
def d_rank_of : List WData → Option WData := body 2
  (sSeq (sIf (dTest (dOp hNe (dCall d_determinant (dCons (dVar 0) (dCons (dVar 1) dNil))) (dC (.int 0))))
  (sRet (dC (.int 3)))
  sNil)
  (sRet (dIf (dTest (dOp hEq (dCall d_first_not_zero (dCons (dVar 0) (dCons (dCall d_undone (dCons (dVar 0) (dCons (dVar 1) dNil))) dNil))) (dC (.int 0)))) (dC (.int 1)) (dC (.int 2)))))
def d_line_that_stays : List WData → Option WData := body 5
  (sSeq (sForR 2 (dCons (dC (.int 1)) (dCons (dVar 0) dNil))
  (sSeq (sSet 3 (dCall d_mixed (dCons (dVar 0) (dCons (dC (.int 1)) (dCons (dVar 1) (dCons (dNeg (dVar 2)) (dCons (dC gd_IDENTITY) dNil)))))))
  (sIf (dTest (dOp hEq (dCall d_rank_of (dCons (dVar 0) (dCons (dVar 3) dNil))) (dC (.int 1))))
  (sRet (dOp hIx (dL (dLc 4 [4] (dCall d_rows_of (dCons (dVar 3) dNil)) (dTest (dOp hNe (dCall d_first_not_zero (dCons (dVar 0) (dCons (dVar 4) dNil))) (dC (.int 0)))) (dCall d_form_of (dCons (dVar 0) (dCons (dVar 4) dNil))))) (dC (.int 0))))
  sNil)))
  (sRet (dL dNil)))
def d_counted : List WData → Option WData := body 2
  (sRet (dL (dCat (dL (dCons (dCall fLen (dCons (dVar 0) dNil)) dNil)) (dL (dLcR 1 [1] (dCons (dOp hMul (dC (.int 3)) (dCall fLen (dCons (dVar 0) dNil))) dNil) dYes (dOp hIx (dOp hIx (dVar 0) (dOp hDiv (dVar 1) (dC (.int 3)))) (dOp hMod (dVar 1) (dC (.int 3)))))))))
def d_fixed : List WData → Option WData := body 5
  (sSeq (sIf (dNot (dAnd (dTest (dOp (hIn false) (dVar 0) (dC gd_ODD_PRIMES))) (dTest (dCall d_is_map (dCons (dVar 0) (dCons (dVar 1) dNil))))))
  (sRet (dL (dCons (dNeg (dC (.int 1))) dNil)))
  sNil)
  (sSeq (sIf (dTest (dCall d_leaves_all (dCons (dVar 0) (dCons (dVar 1) dNil))))
  (sRet (dL (dCons (dC (.int 0)) (dCons (dC (.int 2)) (dCons (dC (.int 0)) dNil)))))
  sNil)
  (sSeq (sSet 2 (dL (dLc 4 [4] (dCall d_all_points (dCons (dVar 0) dNil)) (dTest (dCall d_are_same (dCons (dVar 0) (dCons (dCall d_applied (dCons (dVar 0) (dCons (dVar 1) (dCons (dVar 4) dNil)))) (dCons (dVar 4) dNil))))) (dVar 4))))
  (sSeq (sSet 3 (dCall d_line_that_stays (dCons (dVar 0) (dCons (dVar 1) dNil))))
  (sSeq (sIf (dTest (dOp hEqL (dVar 3) (dL dNil)))
  (sRet (dL (dCat (dL (dCons (dC (.int 0)) (dCons (dC (.int 0)) dNil))) (dCall d_counted (dCons (dVar 2) dNil)))))
  sNil)
  (sRet (dL (dCat (dL (dCat (dL (dCons (dC (.int 0)) (dCons (dC (.int 1)) dNil))) (dVar 3))) (dCall d_counted (dCons (dL (dLc 4 [4] (dVar 2) (dTest (dOp hNe (dCall d_dot (dCons (dVar 0) (dCons (dVar 4) (dCons (dVar 3) dNil)))) (dC (.int 0)))) (dVar 4))) dNil))))))))))
end Pb
end
end
section
set_option Elab.async false
set_option linter.all false
set_option maxRecDepth 100000
set_option maxHeartbeats 1000000
namespace Pb
open L2 Dn Z
open PySem.W (WData)
open WrraybNeutral (nats told rowT)
def oddPrimes : List Int := [3, 5, 7, 11, 13, 17, 19, 23, 29, 31]
def iL (l : List Int) : WData := .list (l.map .int)
def rL (l : List (List Int)) : WData := .list (l.map iL)
theorem hIx_iL (x : List Int) (i : Int) : hIx (iL x) (.int i) = atI (x.map .int) i := hIx_l _ _
theorem hIx_rL (x : List (List Int)) (i : Int) : hIx (rL x) (.int i) = atI (x.map iL) i := hIx_l _ _
theorem fLen_iL (x : List Int) : fLen [iL x] = some (.int (x.length : Nat)) := by
  show some (WData.int ((x.map WData.int).length : Nat)) = _
  rw [List.length_map]
theorem fLen_rL (x : List (List Int)) : fLen [rL x] = some (.int (x.length : Nat)) := by
  show some (WData.int ((x.map iL).length : Nat)) = _
  rw [List.length_map]
theorem cat_iL {a b : List Int} (h : a.length + b.length ≤ 16777216) : cat2 (iL a) (iL b) = some ((a ++ b).map .int) := by
  unfold iL
  rw [cat2_ll (by rw [List.length_map, List.length_map]; exact h), List.map_append]
theorem cat_rL {a b : List (List Int)} (h : a.length + b.length ≤ 16777216) : cat2 (rL a) (rL b) = some ((a ++ b).map iL) := by
  unfold rL
  rw [cat2_ll (by rw [List.length_map, List.length_map]; exact h), List.map_append]
theorem cut_iL (lo hi : Nat) (x : List Int) : cut lo hi (iL x) = some (((x.drop lo).take (hi - lo)).map .int) := by
  unfold iL
  rw [cut_l, List.map_take, List.map_drop]
theorem hEqL_iL (a b : List Int) : hEqL (iL a) (iL b) = some (.bool (decide (a = b))) := hEqL_ll a b
theorem foldL (x : List Int) : WData.list (x.map .int) = iL x := rfl
theorem foldR (x : List (List Int)) : WData.list (x.map iL) = rL x := rfl
theorem rfold1 (a : List Int) : WData.list [iL a] = rL [a] := rfl
theorem rfold2 (a b : List Int) : WData.list [iL a, iL b] = rL [a, b] := rfl
theorem rfold3 (a b c : List Int) : WData.list [iL a, iL b, iL c] = rL [a, b, c] := rfl
theorem rfold4 (a b c d : List Int) : WData.list [iL a, iL b, iL c, iL d] = rL [a, b, c, d] := rfl
theorem rfold5 (a b c d e : List Int) : WData.list [iL a, iL b, iL c, iL d, iL e] = rL [a, b, c, d, e] := rfl
theorem rfold8 (a b c d e f g h : List Int) : WData.list [iL a, iL b, iL c, iL d, iL e, iL f, iL g, iL h] = rL [a, b, c, d, e, f, g, h] := rfl
theorem foldc (a : Int) (x : List Int) : WData.list (.int a :: x.map .int) = iL (a :: x) := rfl
theorem foldcc (a b : Int) (x : List Int) : WData.list (.int a :: .int b :: x.map .int) = iL (a :: b :: x) := rfl
theorem fold0 : WData.list [] = iL [] := rfl
theorem fold1 (a : Int) : WData.list [.int a] = iL [a] := rfl
theorem fold2 (a b : Int) : WData.list [.int a, .int b] = iL [a, b] := rfl
theorem fold3 (a b c : Int) : WData.list [.int a, .int b, .int c] = iL [a, b, c] := rfl
theorem fold6 (a b c d e f : Int) : WData.list [.int a, .int b, .int c, .int d, .int e, .int f] = iL [a, b, c, d, e, f] := rfl
theorem fold9 (a b c d e f g h i : Int) : WData.list [.int a, .int b, .int c, .int d, .int e, .int f, .int g, .int h, .int i] = iL [a, b, c, d, e, f, g, h, i] := rfl
theorem lcL_iL {i : Nat} {ρ : Rho} {c : DT} {f : DE} {x : List Int} (h : x.length < 16777216) : lcL i ρ c f (iL x) = lcGo i ρ c f (x.map .int) := lcL_l (by rw [List.length_map]; exact h)
theorem lcL_rL {i : Nat} {ρ : Rho} {c : DT} {f : DE} {x : List (List Int)} (h : x.length < 16777216) : lcL i ρ c f (rL x) = lcGo i ρ c f (x.map iL) := lcL_l (by rw [List.length_map]; exact h)
theorem oddPrimes_pr {p : Int} (h : p ∈ oddPrimes) : ∃ q : Nat, p = q ∧ Pr q := by
  have : ∀ p ∈ oddPrimes, p = (p.toNat : Int) ∧ p.toNat ∈ primes := by decide
  exact ⟨p.toNat, (this p h).1, ⟨(this p h).2⟩⟩
theorem pr_odd {p : Nat} (h : p ∈ primes) : (p : Int) ∈ oddPrimes := by
  have : ∀ p ∈ primes, (p : Int) ∈ oddPrimes := by decide
  exact this p h
theorem odd_iff (p : Int) : p ∈ oddPrimes ↔ Wrrayb.primeOk p.toNat = true := by
  rw [primeOk_iff]
  constructor
  · intro h
    obtain ⟨q, rfl, hq⟩ := oddPrimes_pr h
    exact hq.mem
  · intro h
    have := pr_odd h
    have h0 : 0 ≤ p := by
      have : ∀ q ∈ primes, 0 < q := by decide
      have := this _ h
      omega
    rw [Int.toNat_of_nonneg h0] at this
    exact this
theorem hIn_p (neg : Bool) (p : Int) : hIn neg (.int p) gd_ODD_PRIMES = some (.bool (if neg then !decide (p ∈ oddPrimes) else decide (p ∈ oddPrimes))) := hInT neg p oddPrimes
def Bd (x : List Int) : Prop := ∀ a ∈ x, -18446744073709551616 < a ∧ a < 18446744073709551616
theorem Bd.mul {x : List Int} (h : Bd x) {a : Int} (ha : a ∈ x) (b : Int) : cMul a b = true := cMul_l (h a ha).1 (h a ha).2
section
variable {p : Nat} [P : Pr p]
theorem fnz_loop (L : Option Sl) : ∀ (xs : List Int) (w : Option Sl),
    (leadZ (zi p xs) = 0 → ∃ w', loop 2 (sIf (dTest (dOp hNe (dOp hMod (dVar 2) (dVar 0)) (dC (.int 0)))) (sRet (dOp hMod (dVar 2) (dVar 0))) sNil) (xs.map .int) [some (.val (.int p)), L, w] = some (.nx [some (.val (.int p)), L, w'])) ∧
    (leadZ (zi p xs) ≠ 0 → loop 2 (sIf (dTest (dOp hNe (dOp hMod (dVar 2) (dVar 0)) (dC (.int 0)))) (sRet (dOp hMod (dVar 2) (dVar 0))) sNil) (xs.map .int) [some (.val (.int p)), L, w] = some (.rt (.int (leadZ (zi p xs)).v)))
  | [], w => ⟨fun _ => ⟨w, rfl⟩, fun h => (h rfl).elim⟩
  | x :: xs, w => by
    have ih := fnz_loop L xs (some (.val (.int x)))
    have hp := p_pos (p := p)
    have e : leadZ (zi p (x :: xs)) = if c p x = 0 then leadZ (zi p xs) else c p x := rfl
    rw [e]
    by_cases h : x % p = 0
    · rw [if_pos (eq_zero.mpr h)]
      simp only [loop, body, initR, sNil, sBreak, sCont, sSeq, sRet, sRetN, sIf, sSet, sOwn, sPut, sAug, sFor, sForT, sForR_eq, dVar, dC, dOp, hAdd_ii, hSub_ii, hMul_ii, hMod_ii, hDiv_ii, hLt_ii, hLe_ii, hGt_ii, hGe_ii, hEq_ii, hNe_ii, dNeg, hInT, hInL, hIx_l, hIx_t, dIxO, dTest, dAnd, dOr, dNot, dAndV, dOrV, dNotV, dIf, dNil, dCons, dL, dTup, dCall, fLen, dLc_eq, dYes, dCat_eq, freeze, wipeR, atc_0, atc_1, atc_2, atc_3, atc_4, atc_5, atc_6, atc_7, atc_8, List.map_cons, List.map_nil, List.length_cons, List.length_nil, List.replicate, List.cons_append, List.nil_append, List.append_nil, List.getElem?_cons_zero, List.getElem?_cons_succ, List.getElem?_nil, List.set_cons_zero, List.set_cons_succ, List.set_nil, Option.bind_some, Option.map_some, Option.bind_none, Option.map_none, if_true, if_false, Bool.false_eq_true, Nat.reduceAdd, Nat.reduceSub, List.length_map, intsOf_ints, Bool.not_true, Bool.not_false, decide_true, decide_false, Function.comp, cat2_ll, lcL_l, dMeth, dNew, dCut, dRep, dLcR_eq, fListOf_t, hp, h]
      exact ih
    · rw [if_neg (fun q => h (eq_zero.mp q))]
      refine ⟨fun q => (h (eq_zero.mp q)).elim, fun _ => ?_⟩
      simp only [loop, body, initR, sNil, sBreak, sCont, sSeq, sRet, sRetN, sIf, sSet, sOwn, sPut, sAug, sFor, sForT, sForR_eq, dVar, dC, dOp, hAdd_ii, hSub_ii, hMul_ii, hMod_ii, hDiv_ii, hLt_ii, hLe_ii, hGt_ii, hGe_ii, hEq_ii, hNe_ii, dNeg, hInT, hInL, hIx_l, hIx_t, dIxO, dTest, dAnd, dOr, dNot, dAndV, dOrV, dNotV, dIf, dNil, dCons, dL, dTup, dCall, fLen, dLc_eq, dYes, dCat_eq, freeze, wipeR, atc_0, atc_1, atc_2, atc_3, atc_4, atc_5, atc_6, atc_7, atc_8, List.map_cons, List.map_nil, List.length_cons, List.length_nil, List.replicate, List.cons_append, List.nil_append, List.append_nil, List.getElem?_cons_zero, List.getElem?_cons_succ, List.getElem?_nil, List.set_cons_zero, List.set_cons_succ, List.set_nil, Option.bind_some, Option.map_some, Option.bind_none, Option.map_none, if_true, if_false, Bool.false_eq_true, Nat.reduceAdd, Nat.reduceSub, List.length_map, intsOf_ints, Bool.not_true, Bool.not_false, decide_true, decide_false, Function.comp, cat2_ll, lcL_l, dMeth, dNew, dCut, dRep, dLcR_eq, fListOf_t, hp, h]
      rfl
theorem d_first_not_zero_eq (xs : List Int) : d_first_not_zero [.int p, iL xs] = some (.int (leadZ (zi p xs)).v) := by
  have ⟨h1, h2⟩ := fnz_loop (p := p) (some (.val (iL xs))) xs none
  simp only [d_first_not_zero, iL, body, initR, sNil, sBreak, sCont, sSeq, sRet, sRetN, sIf, sSet, sOwn, sPut, sAug, sFor, sForT, sForR_eq, dVar, dC, dOp, hAdd_ii, hSub_ii, hMul_ii, hMod_ii, hDiv_ii, hLt_ii, hLe_ii, hGt_ii, hGe_ii, hEq_ii, hNe_ii, dNeg, hInT, hInL, hIx_l, hIx_t, dIxO, dTest, dAnd, dOr, dNot, dAndV, dOrV, dNotV, dIf, dNil, dCons, dL, dTup, dCall, fLen, dLc_eq, dYes, dCat_eq, freeze, wipeR, atc_0, atc_1, atc_2, atc_3, atc_4, atc_5, atc_6, atc_7, atc_8, List.map_cons, List.map_nil, List.length_cons, List.length_nil, List.replicate, List.cons_append, List.nil_append, List.append_nil, List.getElem?_cons_zero, List.getElem?_cons_succ, List.getElem?_nil, List.set_cons_zero, List.set_cons_succ, List.set_nil, Option.bind_some, Option.map_some, Option.bind_none, Option.map_none, if_true, if_false, Bool.false_eq_true, Nat.reduceAdd, Nat.reduceSub, List.length_map, intsOf_ints, Bool.not_true, Bool.not_false, decide_true, decide_false, Function.comp, cat2_ll, lcL_l, dMeth, dNew, dCut, dRep, dLcR_eq, fListOf_t] at h1 h2 ⊢
  by_cases h : leadZ (zi p xs) = 0
  · obtain ⟨w', e⟩ := h1 h
    rw [e, h, v_zero]
  · rw [h2 h]
theorem v_ne {a : Z p} : a.v = 0 ↔ a = 0 := ⟨fun h => Z.ext (by rw [h, v_zero]), fun h => by rw [h, v_zero]⟩
theorem dec_v (a : Z p) : decide (a.v = 0) = decide (a = 0) := decide_eq_decide.mpr v_ne
def itp (p a : Int) : Nat → Int → Int
  | 0, r => r
  | n + 1, r => itp p a n (r * a % p)
theorem itp_mod (a : Int) : ∀ (n : Nat) (r : Int), itp p a n r = itp p (a % p) n r
  | 0, r => rfl
  | n + 1, r => by
    show itp p a n (r * a % p) = itp p (a % p) n (r * (a % p) % p)
    rw [itp_mod a n]
    congr 1
    rw [Int.mul_emod r (a % p), Int.emod_emod_of_dvd a (Int.dvd_refl _), ← Int.mul_emod]
theorem inv_loop (a : Int) (h0 : -18446744073709551616 < a) (h1 : a < 18446744073709551616) : ∀ (n : Nat) (lo r : Int) (w : Option Sl), ∃ w', loop 3 (sSet 2 (dOp hMod (dOp hMul (dVar 2) (dVar 1)) (dVar 0))) (rng lo n) [some (.val (.int p)), some (.val (.int a)), some (.val (.int r)), w] = some (.nx [some (.val (.int p)), some (.val (.int a)), some (.val (.int (itp p a n r))), w'])
  | 0, lo, r, w => ⟨w, rfl⟩
  | n + 1, lo, r, w => by
    have hp := p_pos (p := p)
    obtain ⟨w', ih⟩ := inv_loop a h0 h1 n (lo + 1) (r * a % p) (some (.val (.int lo)))
    refine ⟨w', ?_⟩
    have er : rng lo (n + 1) = .int lo :: rng (lo + 1) n := by
      unfold rng
      rw [List.range_succ_eq_map, List.map_cons, List.map_map]
      simp
      intro k _
      omega
    rw [er]
    simp only [loop, body, initR, sNil, sBreak, sCont, sSeq, sRet, sRetN, sIf, sSet, sOwn, sPut, sAug, sFor, sForT, sForR_eq, dVar, dC, dOp, hAdd_ii, hSub_ii, hMul_ii, hMod_ii, hDiv_ii, hLt_ii, hLe_ii, hGt_ii, hGe_ii, hEq_ii, hNe_ii, dNeg, hInT, hInL, hIx_l, hIx_t, dIxO, dTest, dAnd, dOr, dNot, dAndV, dOrV, dNotV, dIf, dNil, dCons, dL, dTup, dCall, fLen, dLc_eq, dYes, dCat_eq, freeze, wipeR, atc_0, atc_1, atc_2, atc_3, atc_4, atc_5, atc_6, atc_7, atc_8, List.map_cons, List.map_nil, List.length_cons, List.length_nil, List.replicate, List.cons_append, List.nil_append, List.append_nil, List.getElem?_cons_zero, List.getElem?_cons_succ, List.getElem?_nil, List.set_cons_zero, List.set_cons_succ, List.set_nil, Option.bind_some, Option.map_some, Option.bind_none, Option.map_none, if_true, if_false, Bool.false_eq_true, Nat.reduceAdd, Nat.reduceSub, List.length_map, intsOf_ints, Bool.not_true, Bool.not_false, decide_true, decide_false, Function.comp, cat2_ll, lcL_l, dMeth, dNew, dCut, dRep, dLcR_eq, fListOf_t, hp, cMul_r (i := r) (j := a) h0 h1]
    exact ih
theorem itp_undo : ∀ p ∈ primes, ∀ x < p, itp p x (p - 2) 1 = (Rb.undo p x : Nat) := by decide +kernel
theorem d_inverse_eq (a : Int) (h0 : -18446744073709551616 < a) (h1 : a < 18446744073709551616) : d_inverse [.int p, .int a] = some (.int ((c p a)⁻¹).v) := by
  have hp := p_pos (p := p)
  have hl := p_le (p := p)
  have hg := p_ge (p := p)
  obtain ⟨w', e⟩ := inv_loop (p := p) a h0 h1 (p - 2) 0 1 none
  have e2 : ((p : Int) - 2).toNat = p - 2 := by omega
  simp only [d_inverse, body, initR, sNil, sBreak, sCont, sSeq, sRet, sRetN, sIf, sSet, sOwn, sPut, sAug, sFor, sForT, sForR_eq, dVar, dC, dOp, hAdd_ii, hSub_ii, hMul_ii, hMod_ii, hDiv_ii, hLt_ii, hLe_ii, hGt_ii, hGe_ii, hEq_ii, hNe_ii, dNeg, hInT, hInL, hIx_l, hIx_t, dIxO, dTest, dAnd, dOr, dNot, dAndV, dOrV, dNotV, dIf, dNil, dCons, dL, dTup, dCall, fLen, dLc_eq, dYes, dCat_eq, freeze, wipeR, atc_0, atc_1, atc_2, atc_3, atc_4, atc_5, atc_6, atc_7, atc_8, List.map_cons, List.map_nil, List.length_cons, List.length_nil, List.replicate, List.cons_append, List.nil_append, List.append_nil, List.getElem?_cons_zero, List.getElem?_cons_succ, List.getElem?_nil, List.set_cons_zero, List.set_cons_succ, List.set_nil, Option.bind_some, Option.map_some, Option.bind_none, Option.map_none, if_true, if_false, Bool.false_eq_true, Nat.reduceAdd, Nat.reduceSub, List.length_map, intsOf_ints, Bool.not_true, Bool.not_false, decide_true, decide_false, Function.comp, cat2_ll, lcL_l, dMeth, dNew, dCut, dRep, dLcR_eq, fListOf_t, rgs_1 (j := (p : Int) - 2) (by omega) (by omega), e2, e]
  have ha := v_nonneg (c p a)
  have hb := v_lt (c p a)
  have := itp_undo p P.mem (c p a).v.toNat (by omega)
  rw [Int.toNat_of_nonneg ha] at this
  rw [itp_mod]
  show some (WData.int (itp p (c p a).v (p - 2) 1)) = _
  rw [this, inv_v]
theorem lc_scale (s : Int) (hs0 : 0 ≤ s) (hs1 : s < p) (L : Option Sl) : ∀ xs : List Int, lcGo 3 [some (.val (.int p)), L, some (.val (.int s)), none] dYes (dOp hMod (dOp hMul (dVar 2) (dVar 3)) (dVar 0)) (xs.map .int) = some ((xs.map fun x => s * x % p).map .int)
  | [] => rfl
  | x :: xs => by
    have hp := p_pos (p := p)
    have hl := p_le (p := p)
    have ih := lc_scale s hs0 hs1 L xs
    simp only [lcGo, body, initR, sNil, sBreak, sCont, sSeq, sRet, sRetN, sIf, sSet, sOwn, sPut, sAug, sFor, sForT, sForR_eq, dVar, dC, dOp, hAdd_ii, hSub_ii, hMul_ii, hMod_ii, hDiv_ii, hLt_ii, hLe_ii, hGt_ii, hGe_ii, hEq_ii, hNe_ii, dNeg, hInT, hInL, hIx_l, hIx_t, dIxO, dTest, dAnd, dOr, dNot, dAndV, dOrV, dNotV, dIf, dNil, dCons, dL, dTup, dCall, fLen, dLc_eq, dYes, dCat_eq, freeze, wipeR, atc_0, atc_1, atc_2, atc_3, atc_4, atc_5, atc_6, atc_7, atc_8, List.map_cons, List.map_nil, List.length_cons, List.length_nil, List.replicate, List.cons_append, List.nil_append, List.append_nil, List.getElem?_cons_zero, List.getElem?_cons_succ, List.getElem?_nil, List.set_cons_zero, List.set_cons_succ, List.set_nil, Option.bind_some, Option.map_some, Option.bind_none, Option.map_none, if_true, if_false, Bool.false_eq_true, Nat.reduceAdd, Nat.reduceSub, List.length_map, intsOf_ints, Bool.not_true, Bool.not_false, decide_true, decide_false, Function.comp, cat2_ll, lcL_l, dMeth, dNew, dCut, dRep, dLcR_eq, fListOf_t, hp, cMul_l (i := s) (j := x) (by omega) (by omega)]
    rw [ih]
    simp only [body, initR, sNil, sBreak, sCont, sSeq, sRet, sRetN, sIf, sSet, sOwn, sPut, sAug, sFor, sForT, sForR_eq, dVar, dC, dOp, hAdd_ii, hSub_ii, hMul_ii, hMod_ii, hDiv_ii, hLt_ii, hLe_ii, hGt_ii, hGe_ii, hEq_ii, hNe_ii, dNeg, hInT, hInL, hIx_l, hIx_t, dIxO, dTest, dAnd, dOr, dNot, dAndV, dOrV, dNotV, dIf, dNil, dCons, dL, dTup, dCall, fLen, dLc_eq, dYes, dCat_eq, freeze, wipeR, atc_0, atc_1, atc_2, atc_3, atc_4, atc_5, atc_6, atc_7, atc_8, List.map_cons, List.map_nil, List.length_cons, List.length_nil, List.replicate, List.cons_append, List.nil_append, List.append_nil, List.getElem?_cons_zero, List.getElem?_cons_succ, List.getElem?_nil, List.set_cons_zero, List.set_cons_succ, List.set_nil, Option.bind_some, Option.map_some, Option.bind_none, Option.map_none, if_true, if_false, Bool.false_eq_true, Nat.reduceAdd, Nat.reduceSub, List.length_map, intsOf_ints, Bool.not_true, Bool.not_false, decide_true, decide_false, Function.comp, cat2_ll, lcL_l, dMeth, dNew, dCut, dRep, dLcR_eq, fListOf_t]
theorem lift_form (xs : List Int) : lift (formZ (zi p xs)) = xs.map fun x => ((leadZ (zi p xs))⁻¹).v * x % p := by
  unfold lift formZ
  simp only [zi, List.map_map]
  refine List.map_congr_left fun x _ => ?_
  show ((x % p) * _) % p = _
  rw [Int.mul_comm, Int.mul_emod, Int.emod_emod_of_dvd x (Int.dvd_refl _), ← Int.mul_emod]
theorem d_form_of_eq (xs : List Int) (hl : xs.length < 16777216) : d_form_of [.int p, iL xs] = some (iL (lift (formZ (zi p xs)))) := by
  have e1 := d_first_not_zero_eq (p := p) xs
  have hlt := v_lt (leadZ (zi p xs))
  have hge := v_nonneg (leadZ (zi p xs))
  have hp := p_le (p := p)
  have e2 := d_inverse_eq (p := p) (leadZ (zi p xs)).v (by omega) (by omega)
  rw [c_v] at e2
  have e3 := lc_scale (p := p) ((leadZ (zi p xs))⁻¹).v (v_nonneg _) (v_lt _) (some (.val (iL xs))) xs
  simp only [iL, body, initR, sNil, sBreak, sCont, sSeq, sRet, sRetN, sIf, sSet, sOwn, sPut, sAug, sFor, sForT, sForR_eq, dVar, dC, dOp, hAdd_ii, hSub_ii, hMul_ii, hMod_ii, hDiv_ii, hLt_ii, hLe_ii, hGt_ii, hGe_ii, hEq_ii, hNe_ii, dNeg, hInT, hInL, hIx_l, hIx_t, dIxO, dTest, dAnd, dOr, dNot, dAndV, dOrV, dNotV, dIf, dNil, dCons, dL, dTup, dCall, fLen, dLc_eq, dYes, dCat_eq, freeze, wipeR, atc_0, atc_1, atc_2, atc_3, atc_4, atc_5, atc_6, atc_7, atc_8, List.map_cons, List.map_nil, List.length_cons, List.length_nil, List.replicate, List.cons_append, List.nil_append, List.append_nil, List.getElem?_cons_zero, List.getElem?_cons_succ, List.getElem?_nil, List.set_cons_zero, List.set_cons_succ, List.set_nil, Option.bind_some, Option.map_some, Option.bind_none, Option.map_none, if_true, if_false, Bool.false_eq_true, Nat.reduceAdd, Nat.reduceSub, List.length_map, intsOf_ints, Bool.not_true, Bool.not_false, decide_true, decide_false, Function.comp, cat2_ll, lcL_l, dMeth, dNew, dCut, dRep, dLcR_eq, fListOf_t] at e1 e2 e3
  simp only [d_form_of, iL, body, initR, sNil, sBreak, sCont, sSeq, sRet, sRetN, sIf, sSet, sOwn, sPut, sAug, sFor, sForT, sForR_eq, dVar, dC, dOp, hAdd_ii, hSub_ii, hMul_ii, hMod_ii, hDiv_ii, hLt_ii, hLe_ii, hGt_ii, hGe_ii, hEq_ii, hNe_ii, dNeg, hInT, hInL, hIx_l, hIx_t, dIxO, dTest, dAnd, dOr, dNot, dAndV, dOrV, dNotV, dIf, dNil, dCons, dL, dTup, dCall, fLen, dLc_eq, dYes, dCat_eq, freeze, wipeR, atc_0, atc_1, atc_2, atc_3, atc_4, atc_5, atc_6, atc_7, atc_8, List.map_cons, List.map_nil, List.length_cons, List.length_nil, List.replicate, List.cons_append, List.nil_append, List.append_nil, List.getElem?_cons_zero, List.getElem?_cons_succ, List.getElem?_nil, List.set_cons_zero, List.set_cons_succ, List.set_nil, Option.bind_some, Option.map_some, Option.bind_none, Option.map_none, if_true, if_false, Bool.false_eq_true, Nat.reduceAdd, Nat.reduceSub, List.length_map, intsOf_ints, Bool.not_true, Bool.not_false, decide_true, decide_false, Function.comp, cat2_ll, lcL_l, dMeth, dNew, dCut, dRep, dLcR_eq, fListOf_t, e1, e2, hl, e3, lift_form]
theorem points_eq : ∀ p ∈ primes, Rb.points p = [0, 0, 1] :: ((List.range p).map (fun (z : Nat) => [0, 1, z]) ++ (List.range (p * p)).map fun (i : Nat) => [1, i / p, i % p]) := by decide +kernel
theorem d_all_points_eq : d_all_points [.int p] = some (rL ((Rb.points p).map rowT)) := by
  have hp := p_pos (p := p)
  have hl := p_le (p := p)
  have hm := cMul_l (i := (p : Int)) (j := (p : Int)) (by omega) (by omega)
  have hpp : p * p ≤ 961 := Nat.mul_le_mul hl hl
  have e1 : lcGo 2 [some (.val (.int p)), none, none] dYes (dL (dCons (dC (.int 0)) (dCons (dC (.int 1)) (dCons (dVar 2) dNil)))) (rng 0 p) = some ((List.range p).map fun (z : Nat) => iL (rowT [0, 1, z])) := by
    rw [rng_map]
    refine lcGo_map _ _ fun z _ => ?_
    simp only [body, initR, sNil, sBreak, sCont, sSeq, sRet, sRetN, sIf, sSet, sOwn, sPut, sAug, sFor, sForT, sForR_eq, dVar, dC, dOp, hAdd_ii, hSub_ii, hMul_ii, hMod_ii, hDiv_ii, hLt_ii, hLe_ii, hGt_ii, hGe_ii, hEq_ii, hNe_ii, dNeg, hInT, hInL, hIx_l, hIx_t, dIxO, dTest, dAnd, dOr, dNot, dAndV, dOrV, dNotV, dIf, dNil, dCons, dL, dTup, dCall, fLen, dLc_eq, dYes, dCat_eq, freeze, wipeR, atc_0, atc_1, atc_2, atc_3, atc_4, atc_5, atc_6, atc_7, atc_8, List.map_cons, List.map_nil, List.length_cons, List.length_nil, List.replicate, List.cons_append, List.nil_append, List.append_nil, List.getElem?_cons_zero, List.getElem?_cons_succ, List.getElem?_nil, List.set_cons_zero, List.set_cons_succ, List.set_nil, Option.bind_some, Option.map_some, Option.bind_none, Option.map_none, if_true, if_false, Bool.false_eq_true, Nat.reduceAdd, Nat.reduceSub, List.length_map, intsOf_ints, Bool.not_true, Bool.not_false, decide_true, decide_false, Function.comp, cat2_ll, lcL_l, dMeth, dNew, dCut, dRep, dLcR_eq, fListOf_t]
    rfl
  have e2 : lcGo 1 [some (.val (.int p)), none, none] dYes (dL (dCons (dC (.int 1)) (dCons (dOp hDiv (dVar 1) (dVar 0)) (dCons (dOp hMod (dVar 1) (dVar 0)) dNil)))) (rng 0 (p * p)) = some ((List.range (p * p)).map fun (i : Nat) => iL (rowT [1, i / p, i % p])) := by
    rw [rng_map]
    refine lcGo_map _ _ fun i _ => ?_
    simp only [body, initR, sNil, sBreak, sCont, sSeq, sRet, sRetN, sIf, sSet, sOwn, sPut, sAug, sFor, sForT, sForR_eq, dVar, dC, dOp, hAdd_ii, hSub_ii, hMul_ii, hMod_ii, hDiv_ii, hLt_ii, hLe_ii, hGt_ii, hGe_ii, hEq_ii, hNe_ii, dNeg, hInT, hInL, hIx_l, hIx_t, dIxO, dTest, dAnd, dOr, dNot, dAndV, dOrV, dNotV, dIf, dNil, dCons, dL, dTup, dCall, fLen, dLc_eq, dYes, dCat_eq, freeze, wipeR, atc_0, atc_1, atc_2, atc_3, atc_4, atc_5, atc_6, atc_7, atc_8, List.map_cons, List.map_nil, List.length_cons, List.length_nil, List.replicate, List.cons_append, List.nil_append, List.append_nil, List.getElem?_cons_zero, List.getElem?_cons_succ, List.getElem?_nil, List.set_cons_zero, List.set_cons_succ, List.set_nil, Option.bind_some, Option.map_some, Option.bind_none, Option.map_none, if_true, if_false, Bool.false_eq_true, Nat.reduceAdd, Nat.reduceSub, List.length_map, intsOf_ints, Bool.not_true, Bool.not_false, decide_true, decide_false, Function.comp, cat2_ll, lcL_l, dMeth, dNew, dCut, dRep, dLcR_eq, fListOf_t, show (p : Int) < 1073741824 by omega, hp]
    rw [← Int.natCast_ediv, ← Int.natCast_emod]
    rfl
  have t1 : ((p : Int)).toNat = p := by omega
  have t2 : ((p : Int) * p).toNat = p * p := by rw [← Int.natCast_mul]; omega
  have b1 : (0 : Int) ≤ (p : Int) * p := by rw [← Int.natCast_mul]; omega
  have b2 : (p : Int) * p < 16777216 := by rw [← Int.natCast_mul]; omega
  simp only [d_all_points, body, initR, sNil, sBreak, sCont, sSeq, sRet, sRetN, sIf, sSet, sOwn, sPut, sAug, sFor, sForT, sForR_eq, dVar, dC, dOp, hAdd_ii, hSub_ii, hMul_ii, hMod_ii, hDiv_ii, hLt_ii, hLe_ii, hGt_ii, hGe_ii, hEq_ii, hNe_ii, dNeg, hInT, hInL, hIx_l, hIx_t, dIxO, dTest, dAnd, dOr, dNot, dAndV, dOrV, dNotV, dIf, dNil, dCons, dL, dTup, dCall, fLen, dLc_eq, dYes, dCat_eq, freeze, wipeR, atc_0, atc_1, atc_2, atc_3, atc_4, atc_5, atc_6, atc_7, atc_8, List.map_cons, List.map_nil, List.length_cons, List.length_nil, List.replicate, List.cons_append, List.nil_append, List.append_nil, List.getElem?_cons_zero, List.getElem?_cons_succ, List.getElem?_nil, List.set_cons_zero, List.set_cons_succ, List.set_nil, Option.bind_some, Option.map_some, Option.bind_none, Option.map_none, if_true, if_false, Bool.false_eq_true, Nat.reduceAdd, Nat.reduceSub, List.length_map, intsOf_ints, Bool.not_true, Bool.not_false, decide_true, decide_false, Function.comp, cat2_ll, lcL_l, dMeth, dNew, dCut, dRep, dLcR_eq, fListOf_t, hm, lcRs_1 (j := (p : Int)) (by omega) (by omega), lcRs_1 (j := (p : Int) * p) b1 b2, t1, t2, e1, e2, List.length_range, List.length_append, show 0 + 1 + p ≤ 16777216 by omega, show 0 + 1 + p + p * p ≤ 16777216 by omega, show p + 1 + p * p ≤ 16777216 by omega]
  rw [points_eq p P.mem]
  simp only [rL, List.map_cons, List.map_append, List.map_map, Option.some.injEq]
  rfl
end
end Pb
end
section
set_option Elab.async false
set_option linter.all false
set_option maxRecDepth 100000
set_option maxHeartbeats 1000000
namespace Pb
open L2 Dn Z
open PySem.W (WData)
open WrraybNeutral (nats told rowT)
theorem len9 {α : Type} {l : List α} (h : l.length = 9) : ∃ a b c d e f g h i, l = [a, b, c, d, e, f, g, h, i] := by
  match l, h with
  | [a, b, c, d, e, f, g, h, i], _ => exact ⟨a, b, c, d, e, f, g, h, i, rfl⟩
theorem lift_len {p : Nat} (l : List (Z p)) : (lift l).length = l.length := by simp [lift]
theorem zi_len (p : Nat) (x : List Int) : (zi p x).length = x.length := by simp [zi]
theorem zi_cons (p : Nat) (a : Int) (x : List Int) : zi p (a :: x) = c p a :: zi p x := rfl
theorem zi_nil (p : Nat) : zi p [] = [] := rfl
section
variable {p : Nat} [P : Pr p]
theorem bd_lift (l : List (Z p)) : Bd (lift l) := by
  intro a ha
  unfold lift at ha
  obtain ⟨z, _, rfl⟩ := List.mem_map.mp ha
  have h0 := v_nonneg z
  have h1 := v_lt z
  have h2 := p_le (p := p)
  omega
theorem int_v {z : Int} {a : Z p} (h : c p z = a) : z % p = a.v := by rw [← h]; rfl
theorem bd_row (v : List Nat) (h : v ∈ Rb.points p) : Bd (rowT v) := by
  have hl := p_le (p := p)
  rcases mem_points.mp h with rfl | ⟨d, hd, rfl⟩ | ⟨b, d, hb, hd, rfl⟩ <;> intro a ha <;> simp [rowT, WrraybNeutral.n] at ha <;> omega
theorem pt_len {v : List Nat} (h : v ∈ Rb.points p) : v.length = 3 := by
  rcases mem_points.mp h with rfl | ⟨d, hd, rfl⟩ | ⟨b, d, hb, hd, rfl⟩ <;> rfl
theorem zi_row (v : List Nat) : zi p (rowT v) = zr p v := by
  unfold zi zr WrraybNeutral.rowT
  rw [List.map_map]; rfl
theorem rowT_len (v : List Nat) : (rowT v).length = v.length := by simp [WrraybNeutral.rowT]
theorem dot3 (a b d e f g : Z p) : dotZ [a, b, d] [e, f, g] = a * e + b * f + d * g := by
  show a * e + (b * f + (d * g + 0)) = _
  grind
theorem join3 (a b d e f g : Z p) : joinZ [a, b, d] [e, f, g] = [b * g - d * f, d * e - a * g, a * f - b * e] := rfl
theorem row9_0 (a b d e f g h i j : Z p) : rowZ [a, b, d, e, f, g, h, i, j] 0 = [a, b, d] := rfl
theorem row9_1 (a b d e f g h i j : Z p) : rowZ [a, b, d, e, f, g, h, i, j] 1 = [e, f, g] := rfl
theorem row9_2 (a b d e f g h i j : Z p) : rowZ [a, b, d, e, f, g, h, i, j] 2 = [h, i, j] := rfl
theorem app9 (a b d e f g h i j x y z : Z p) : applyZ [a, b, d, e, f, g, h, i, j] [x, y, z] = [a * x + b * y + d * z, e * x + f * y + g * z, h * x + i * y + j * z] := by
  unfold applyZ
  rw [row9_0, row9_1, row9_2, dot3, dot3, dot3]
theorem adj9 (a b d e f g h i j : Z p) : adjZ [a, b, d, e, f, g, h, i, j] = [f * j - g * i, i * d - j * b, b * g - d * f, g * h - e * j, j * a - h * d, d * e - a * g, e * i - f * h, h * b - i * a, a * f - b * e] := by
  unfold adjZ cofZ
  simp only [List.range, List.range.loop, List.flatMap_cons, List.flatMap_nil, List.map_cons, List.map_nil, List.append_nil, List.cons_append, List.nil_append, row9_0, row9_1, row9_2, join3]
  rfl
theorem det9 (a b d e f g h i j : Z p) : detZ [a, b, d, e, f, g, h, i, j] = a * (f * j - g * i) + b * (g * h - e * j) + d * (e * i - f * h) := by
  unfold detZ
  rw [row9_0, row9_1, row9_2, join3, dot3]
theorem d_dot_eq {x y : List Int} (hx : x.length = 3) (hy : y.length = 3) (bx : Bd x) : d_dot [.int p, iL x, iL y] = some (.int (dotZ (zi p x) (zi p y)).v) := by
  obtain ⟨x0, x1, x2, rfl⟩ := len3 hx
  obtain ⟨y0, y1, y2, rfl⟩ := len3 hy
  have hp := p_pos (p := p)
  have m0 := bx.mul (a := x0) (by simp) y0
  have m1 := bx.mul (a := x1) (by simp) y1
  have m2 := bx.mul (a := x2) (by simp) y2
  simp only [d_dot, body, initR, sNil, sBreak, sCont, sSeq, sRet, sRetN, sIf, sSet, sOwn, sPut, sAug, sFor, sForT, sForR_eq, dVar, dC, dOp, hAdd_ii, hSub_ii, hMul_ii, hMod_ii, hDiv_ii, hLt_ii, hLe_ii, hGt_ii, hGe_ii, hEq_ii, hNe_ii, dNeg, hInT, hInL, hIx_iL, hIx_rL, fLen_iL, fLen_rL, cat_iL, cat_rL, cut_iL, hEqL_iL, rfold1, rfold2, rfold3, rfold4, rfold5, rfold8, foldc, foldcc, fold0, fold1, fold2, fold3, fold6, fold9, foldL, foldR, lcL_iL, lcL_rL, dIxO, dTest, dAnd, dOr, dNot, dAndV, dOrV, dNotV, dIf, dNil, dCons, dL, dTup, dCall, dLc_eq, dYes, dCat_eq, freeze, wipeR, atc_0, atc_1, atc_2, atc_3, atc_4, atc_5, atc_6, atc_7, atc_8, List.map_cons, List.map_nil, List.length_cons, List.length_nil, List.replicate, List.cons_append, List.nil_append, List.append_nil, List.getElem?_cons_zero, List.getElem?_cons_succ, List.getElem?_nil, List.set_cons_zero, List.set_cons_succ, List.set_nil, Option.bind_some, Option.map_some, Option.bind_none, Option.map_none, if_true, if_false, Bool.false_eq_true, Nat.reduceAdd, Nat.reduceSub, List.length_map, intsOf_ints, Bool.not_true, Bool.not_false, decide_true, decide_false, Function.comp, dMeth, dNew, dCut, dRep, dLcR_eq, fListOf_t, m0, m1, m2, hp]
  rw [int_v (a := dotZ (zi p [x0, x1, x2]) (zi p [y0, y1, y2])) (by simp only [zi_cons, zi_nil, dot3, c_add, c_mul])]
theorem d_joined_eq {x y : List Int} (hx : x.length = 3) (hy : y.length = 3) (bx : Bd x) : d_joined [.int p, iL x, iL y] = some (iL (lift (joinZ (zi p x) (zi p y)))) := by
  obtain ⟨x0, x1, x2, rfl⟩ := len3 hx
  obtain ⟨y0, y1, y2, rfl⟩ := len3 hy
  have hp := p_pos (p := p)
  have m0 := fun b => bx.mul (a := x0) (by simp) b
  have m1 := fun b => bx.mul (a := x1) (by simp) b
  have m2 := fun b => bx.mul (a := x2) (by simp) b
  simp only [d_joined, body, initR, sNil, sBreak, sCont, sSeq, sRet, sRetN, sIf, sSet, sOwn, sPut, sAug, sFor, sForT, sForR_eq, dVar, dC, dOp, hAdd_ii, hSub_ii, hMul_ii, hMod_ii, hDiv_ii, hLt_ii, hLe_ii, hGt_ii, hGe_ii, hEq_ii, hNe_ii, dNeg, hInT, hInL, hIx_iL, hIx_rL, fLen_iL, fLen_rL, cat_iL, cat_rL, cut_iL, hEqL_iL, rfold1, rfold2, rfold3, rfold4, rfold5, rfold8, foldc, foldcc, fold0, fold1, fold2, fold3, fold6, fold9, foldL, foldR, lcL_iL, lcL_rL, dIxO, dTest, dAnd, dOr, dNot, dAndV, dOrV, dNotV, dIf, dNil, dCons, dL, dTup, dCall, dLc_eq, dYes, dCat_eq, freeze, wipeR, atc_0, atc_1, atc_2, atc_3, atc_4, atc_5, atc_6, atc_7, atc_8, List.map_cons, List.map_nil, List.length_cons, List.length_nil, List.replicate, List.cons_append, List.nil_append, List.append_nil, List.getElem?_cons_zero, List.getElem?_cons_succ, List.getElem?_nil, List.set_cons_zero, List.set_cons_succ, List.set_nil, Option.bind_some, Option.map_some, Option.bind_none, Option.map_none, if_true, if_false, Bool.false_eq_true, Nat.reduceAdd, Nat.reduceSub, List.length_map, intsOf_ints, Bool.not_true, Bool.not_false, decide_true, decide_false, Function.comp, dMeth, dNew, dCut, dRep, dLcR_eq, fListOf_t, m0, m1, m2, hp]
  simp only [zi_cons, zi_nil, join3, ← c_mul, ← c_sub]
  rfl
theorem joinZ_len (x y : List (Z p)) : (joinZ x y).length = 3 := rfl
theorem d_are_same_eq {x y : List Int} (hx : x.length = 3) (hy : y.length = 3) (bx : Bd x) : d_are_same [.int p, iL x, iL y] = some (.bool (decide (leadZ (joinZ (zi p x) (zi p y)) = 0))) := by
  have e1 := d_joined_eq (p := p) hx hy bx
  have e2 := d_first_not_zero_eq (p := p) (lift (joinZ (zi p x) (zi p y)))
  rw [zi_lift] at e2
  simp only [d_are_same, body, initR, sNil, sBreak, sCont, sSeq, sRet, sRetN, sIf, sSet, sOwn, sPut, sAug, sFor, sForT, sForR_eq, dVar, dC, dOp, hAdd_ii, hSub_ii, hMul_ii, hMod_ii, hDiv_ii, hLt_ii, hLe_ii, hGt_ii, hGe_ii, hEq_ii, hNe_ii, dNeg, hInT, hInL, hIx_iL, hIx_rL, fLen_iL, fLen_rL, cat_iL, cat_rL, cut_iL, hEqL_iL, rfold1, rfold2, rfold3, rfold4, rfold5, rfold8, foldc, foldcc, fold0, fold1, fold2, fold3, fold6, fold9, foldL, foldR, lcL_iL, lcL_rL, dIxO, dTest, dAnd, dOr, dNot, dAndV, dOrV, dNotV, dIf, dNil, dCons, dL, dTup, dCall, dLc_eq, dYes, dCat_eq, freeze, wipeR, atc_0, atc_1, atc_2, atc_3, atc_4, atc_5, atc_6, atc_7, atc_8, List.map_cons, List.map_nil, List.length_cons, List.length_nil, List.replicate, List.cons_append, List.nil_append, List.append_nil, List.getElem?_cons_zero, List.getElem?_cons_succ, List.getElem?_nil, List.set_cons_zero, List.set_cons_succ, List.set_nil, Option.bind_some, Option.map_some, Option.bind_none, Option.map_none, if_true, if_false, Bool.false_eq_true, Nat.reduceAdd, Nat.reduceSub, List.length_map, intsOf_ints, Bool.not_true, Bool.not_false, decide_true, decide_false, Function.comp, dMeth, dNew, dCut, dRep, dLcR_eq, fListOf_t, e1, e2, dec_v]
theorem bd_sub {x y : List Int} (h : Bd x) (s : ∀ a ∈ y, a ∈ x) : Bd y := fun a ha => h a (s a ha)
theorem bd9 {a b d e f g h i j : Int} (bm : Bd [a, b, d, e, f, g, h, i, j]) : Bd [a, b, d] ∧ Bd [e, f, g] ∧ Bd [h, i, j] := by
  refine ⟨bd_sub bm fun x hx => ?_, bd_sub bm fun x hx => ?_, bd_sub bm fun x hx => ?_⟩ <;> simp at hx ⊢ <;> omega
theorem d_determinant_eq {m : List Int} (hm : m.length = 9) (bm : Bd m) : d_determinant [.int p, iL m] = some (.int (detZ (zi p m)).v) := by
  obtain ⟨m0, m1, m2, m3, m4, m5, m6, m7, m8, rfl⟩ := len9 hm
  have e1 := d_joined_eq (p := p) (x := [m0, m1, m2]) (y := [m3, m4, m5]) rfl rfl (bd9 bm).1
  have e2 := d_dot_eq (p := p) (x := lift (joinZ (zi p [m0, m1, m2]) (zi p [m3, m4, m5]))) (y := [m6, m7, m8]) rfl rfl (bd_lift _)
  rw [zi_lift] at e2
  have e3 : dotZ (joinZ (zi p [m0, m1, m2]) (zi p [m3, m4, m5])) (zi p [m6, m7, m8]) = detZ (zi p [m0, m1, m2, m3, m4, m5, m6, m7, m8]) := by
    simp only [zi_cons, zi_nil, join3, dot3, det9]
    grind
  rw [e3] at e2
  simp only [d_determinant, body, initR, sNil, sBreak, sCont, sSeq, sRet, sRetN, sIf, sSet, sOwn, sPut, sAug, sFor, sForT, sForR_eq, dVar, dC, dOp, hAdd_ii, hSub_ii, hMul_ii, hMod_ii, hDiv_ii, hLt_ii, hLe_ii, hGt_ii, hGe_ii, hEq_ii, hNe_ii, dNeg, hInT, hInL, hIx_iL, hIx_rL, fLen_iL, fLen_rL, cat_iL, cat_rL, cut_iL, hEqL_iL, rfold1, rfold2, rfold3, rfold4, rfold5, rfold8, foldc, foldcc, fold0, fold1, fold2, fold3, fold6, fold9, foldL, foldR, lcL_iL, lcL_rL, dIxO, dTest, dAnd, dOr, dNot, dAndV, dOrV, dNotV, dIf, dNil, dCons, dL, dTup, dCall, dLc_eq, dYes, dCat_eq, freeze, wipeR, atc_0, atc_1, atc_2, atc_3, atc_4, atc_5, atc_6, atc_7, atc_8, List.map_cons, List.map_nil, List.length_cons, List.length_nil, List.replicate, List.cons_append, List.nil_append, List.append_nil, List.getElem?_cons_zero, List.getElem?_cons_succ, List.getElem?_nil, List.set_cons_zero, List.set_cons_succ, List.set_nil, Option.bind_some, Option.map_some, Option.bind_none, Option.map_none, if_true, if_false, Bool.false_eq_true, Nat.reduceAdd, Nat.reduceSub, List.length_map, intsOf_ints, Bool.not_true, Bool.not_false, decide_true, decide_false, Function.comp, dMeth, dNew, dCut, dRep, dLcR_eq, fListOf_t, List.drop, List.take, e1, e2]
theorem d_rows_of_eq (a b d e f g h i j : Int) : d_rows_of [iL [a, b, d, e, f, g, h, i, j]] = some (rL [[a, b, d], [e, f, g], [h, i, j]]) := by
  simp only [d_rows_of, body, initR, sNil, sBreak, sCont, sSeq, sRet, sRetN, sIf, sSet, sOwn, sPut, sAug, sFor, sForT, sForR_eq, dVar, dC, dOp, hAdd_ii, hSub_ii, hMul_ii, hMod_ii, hDiv_ii, hLt_ii, hLe_ii, hGt_ii, hGe_ii, hEq_ii, hNe_ii, dNeg, hInT, hInL, hIx_iL, hIx_rL, fLen_iL, fLen_rL, cat_iL, cat_rL, cut_iL, hEqL_iL, rfold1, rfold2, rfold3, rfold4, rfold5, rfold8, foldc, foldcc, fold0, fold1, fold2, fold3, fold6, fold9, foldL, foldR, lcL_iL, lcL_rL, dIxO, dTest, dAnd, dOr, dNot, dAndV, dOrV, dNotV, dIf, dNil, dCons, dL, dTup, dCall, dLc_eq, dYes, dCat_eq, freeze, wipeR, atc_0, atc_1, atc_2, atc_3, atc_4, atc_5, atc_6, atc_7, atc_8, List.map_cons, List.map_nil, List.length_cons, List.length_nil, List.replicate, List.cons_append, List.nil_append, List.append_nil, List.getElem?_cons_zero, List.getElem?_cons_succ, List.getElem?_nil, List.set_cons_zero, List.set_cons_succ, List.set_nil, Option.bind_some, Option.map_some, Option.bind_none, Option.map_none, if_true, if_false, Bool.false_eq_true, Nat.reduceAdd, Nat.reduceSub, List.length_map, intsOf_ints, Bool.not_true, Bool.not_false, decide_true, decide_false, Function.comp, dMeth, dNew, dCut, dRep, dLcR_eq, fListOf_t, List.drop, List.take]
theorem d_transposed_eq (a b d e f g h i j : Int) : d_transposed [iL [a, b, d, e, f, g, h, i, j]] = some (iL [a, e, h, b, f, i, d, g, j]) := by
  have e1 : lcGo 1 [some (.val (iL [a, b, d, e, f, g, h, i, j])), none] dYes (dOp hIx (dVar 0) (dOp hAdd (dOp hMul (dC (.int 3)) (dOp hMod (dVar 1) (dC (.int 3)))) (dOp hDiv (dVar 1) (dC (.int 3))))) (rng 0 9) = some ((List.range 9).map fun (k : Nat) => .int ([a, b, d, e, f, g, h, i, j].getD (3 * (k % 3) + k / 3) 0)) := by
    rw [rng_map]
    refine lcGo_map _ _ fun k hk => ?_
    have hk := List.mem_range.mp hk
    simp only [body, initR, sNil, sBreak, sCont, sSeq, sRet, sRetN, sIf, sSet, sOwn, sPut, sAug, sFor, sForT, sForR_eq, dVar, dC, dOp, hAdd_ii, hSub_ii, hMul_ii, hMod_ii, hDiv_ii, hLt_ii, hLe_ii, hGt_ii, hGe_ii, hEq_ii, hNe_ii, dNeg, hInT, hInL, hIx_iL, hIx_rL, fLen_iL, fLen_rL, cat_iL, cat_rL, cut_iL, hEqL_iL, rfold1, rfold2, rfold3, rfold4, rfold5, rfold8, foldc, foldcc, fold0, fold1, fold2, fold3, fold6, fold9, foldL, foldR, lcL_iL, lcL_rL, dIxO, dTest, dAnd, dOr, dNot, dAndV, dOrV, dNotV, dIf, dNil, dCons, dL, dTup, dCall, dLc_eq, dYes, dCat_eq, freeze, wipeR, atc_0, atc_1, atc_2, atc_3, atc_4, atc_5, atc_6, atc_7, atc_8, List.map_cons, List.map_nil, List.length_cons, List.length_nil, List.replicate, List.cons_append, List.nil_append, List.append_nil, List.getElem?_cons_zero, List.getElem?_cons_succ, List.getElem?_nil, List.set_cons_zero, List.set_cons_succ, List.set_nil, Option.bind_some, Option.map_some, Option.bind_none, Option.map_none, if_true, if_false, Bool.false_eq_true, Nat.reduceAdd, Nat.reduceSub, List.length_map, intsOf_ints, Bool.not_true, Bool.not_false, decide_true, decide_false, Function.comp, dMeth, dNew, dCut, dRep, dLcR_eq, fListOf_t, hMod_ii (i := (k : Int)) (j := 3) (by omega), hDiv_ii (i := (k : Int)) (j := 3) (by omega) (by omega), hMul_ii (i := 3) (j := (k : Int) % 3) (cMul_l (by omega) (by omega))]
    have ek : (3 * ((k : Int) % 3) + (k : Int) / 3) = ((3 * (k % 3) + k / 3 : Nat) : Int) := by omega
    rw [ek]
    refine at_ints (ns := [a, b, d, e, f, g, h, i, j]) ?_
    have hb : 3 * (k % 3) + k / 3 < [a, b, d, e, f, g, h, i, j].length := by
      show _ < 9
      omega
    rw [List.getD_eq_getElem?_getD, List.getElem?_eq_getElem hb]
    rfl
  simp only [d_transposed, body, initR, sNil, sBreak, sCont, sSeq, sRet, sRetN, sIf, sSet, sOwn, sPut, sAug, sFor, sForT, sForR_eq, dVar, dC, dOp, hAdd_ii, hSub_ii, hMul_ii, hMod_ii, hDiv_ii, hLt_ii, hLe_ii, hGt_ii, hGe_ii, hEq_ii, hNe_ii, dNeg, hInT, hInL, hIx_l, hIx_t, dIxO, dTest, dAnd, dOr, dNot, dAndV, dOrV, dNotV, dIf, dNil, dCons, dL, dTup, dCall, fLen, dLc_eq, dYes, dCat_eq, freeze, wipeR, atc_0, atc_1, atc_2, atc_3, atc_4, atc_5, atc_6, atc_7, atc_8, List.map_cons, List.map_nil, List.length_cons, List.length_nil, List.replicate, List.cons_append, List.nil_append, List.append_nil, List.getElem?_cons_zero, List.getElem?_cons_succ, List.getElem?_nil, List.set_cons_zero, List.set_cons_succ, List.set_nil, Option.bind_some, Option.map_some, Option.bind_none, Option.map_none, if_true, if_false, Bool.false_eq_true, Nat.reduceAdd, Nat.reduceSub, List.length_map, intsOf_ints, Bool.not_true, Bool.not_false, decide_true, decide_false, Function.comp, cat2_ll, lcL_l, dMeth, dNew, dCut, dRep, dLcR_eq, fListOf_t, lcRs_1 (j := 9) (by omega) (by omega), show (9 : Int).toNat = 9 from rfl, e1]
  rfl
theorem applyZ_len (x y : List (Z p)) : (applyZ x y).length = 3 := rfl
theorem d_undone_eq {m : List Int} (hm : m.length = 9) (bm : Bd m) : d_undone [.int p, iL m] = some (iL (lift (adjZ (zi p m)))) := by
  obtain ⟨m0, m1, m2, m3, m4, m5, m6, m7, m8, rfl⟩ := len9 hm
  have r1 := d_rows_of_eq m0 m1 m2 m3 m4 m5 m6 m7 m8
  have b0 := (bd9 bm).1
  have b1 := (bd9 bm).2.1
  have b2 := (bd9 bm).2.2
  have j0 := d_joined_eq (p := p) (x := [m3, m4, m5]) (y := [m6, m7, m8]) rfl rfl b1
  have j1 := d_joined_eq (p := p) (x := [m6, m7, m8]) (y := [m0, m1, m2]) rfl rfl b2
  have j2 := d_joined_eq (p := p) (x := [m0, m1, m2]) (y := [m3, m4, m5]) rfl rfl b0
  simp only [zi_cons, zi_nil, join3, lift, List.map_cons, List.map_nil] at j0 j1 j2
  have k := fun a b d e f g h i j => d_transposed_eq a b d e f g h i j
  simp only [d_undone, body, initR, sNil, sBreak, sCont, sSeq, sRet, sRetN, sIf, sSet, sOwn, sPut, sAug, sFor, sForT, sForR_eq, dVar, dC, dOp, hAdd_ii, hSub_ii, hMul_ii, hMod_ii, hDiv_ii, hLt_ii, hLe_ii, hGt_ii, hGe_ii, hEq_ii, hNe_ii, dNeg, hInT, hInL, hIx_iL, hIx_rL, fLen_iL, fLen_rL, cat_iL, cat_rL, cut_iL, hEqL_iL, rfold1, rfold2, rfold3, rfold4, rfold5, rfold8, foldc, foldcc, fold0, fold1, fold2, fold3, fold6, fold9, foldL, foldR, lcL_iL, lcL_rL, dIxO, dTest, dAnd, dOr, dNot, dAndV, dOrV, dNotV, dIf, dNil, dCons, dL, dTup, dCall, dLc_eq, dYes, dCat_eq, freeze, wipeR, atc_0, atc_1, atc_2, atc_3, atc_4, atc_5, atc_6, atc_7, atc_8, List.map_cons, List.map_nil, List.length_cons, List.length_nil, List.replicate, List.cons_append, List.nil_append, List.append_nil, List.getElem?_cons_zero, List.getElem?_cons_succ, List.getElem?_nil, List.set_cons_zero, List.set_cons_succ, List.set_nil, Option.bind_some, Option.map_some, Option.bind_none, Option.map_none, if_true, if_false, Bool.false_eq_true, Nat.reduceAdd, Nat.reduceSub, List.length_map, intsOf_ints, Bool.not_true, Bool.not_false, decide_true, decide_false, Function.comp, dMeth, dNew, dCut, dRep, dLcR_eq, fListOf_t, r1, j0, j1, j2, k, show 0 + 1 + 1 + 1 + (0 + 1 + 1 + 1) ≤ 16777216 by omega, show 0 + 1 + 1 + 1 + 1 + 1 + 1 + (0 + 1 + 1 + 1) ≤ 16777216 by omega]
  simp only [zi_cons, zi_nil, adj9]
  rfl
theorem d_applied_eq {m x : List Int} (hm : m.length = 9) (hx : x.length = 3) (bm : Bd m) : d_applied [.int p, iL m, iL x] = some (iL (lift (applyZ (zi p m) (zi p x)))) := by
  obtain ⟨m0, m1, m2, m3, m4, m5, m6, m7, m8, rfl⟩ := len9 hm
  have r1 := d_rows_of_eq m0 m1 m2 m3 m4 m5 m6 m7 m8
  have b0 := (bd9 bm).1
  have b1 := (bd9 bm).2.1
  have b2 := (bd9 bm).2.2
  have j0 := d_dot_eq (p := p) (x := [m0, m1, m2]) (y := x) rfl hx b0
  have j1 := d_dot_eq (p := p) (x := [m3, m4, m5]) (y := x) rfl hx b1
  have j2 := d_dot_eq (p := p) (x := [m6, m7, m8]) (y := x) rfl hx b2
  simp only [d_applied, body, initR, sNil, sBreak, sCont, sSeq, sRet, sRetN, sIf, sSet, sOwn, sPut, sAug, sFor, sForT, sForR_eq, dVar, dC, dOp, hAdd_ii, hSub_ii, hMul_ii, hMod_ii, hDiv_ii, hLt_ii, hLe_ii, hGt_ii, hGe_ii, hEq_ii, hNe_ii, dNeg, hInT, hInL, hIx_iL, hIx_rL, fLen_iL, fLen_rL, cat_iL, cat_rL, cut_iL, hEqL_iL, rfold1, rfold2, rfold3, rfold4, rfold5, rfold8, foldc, foldcc, fold0, fold1, fold2, fold3, fold6, fold9, foldL, foldR, lcL_iL, lcL_rL, dIxO, dTest, dAnd, dOr, dNot, dAndV, dOrV, dNotV, dIf, dNil, dCons, dL, dTup, dCall, dLc_eq, dYes, dCat_eq, freeze, wipeR, atc_0, atc_1, atc_2, atc_3, atc_4, atc_5, atc_6, atc_7, atc_8, List.map_cons, List.map_nil, List.length_cons, List.length_nil, List.replicate, List.cons_append, List.nil_append, List.append_nil, List.getElem?_cons_zero, List.getElem?_cons_succ, List.getElem?_nil, List.set_cons_zero, List.set_cons_succ, List.set_nil, Option.bind_some, Option.map_some, Option.bind_none, Option.map_none, if_true, if_false, Bool.false_eq_true, Nat.reduceAdd, Nat.reduceSub, List.length_map, intsOf_ints, Bool.not_true, Bool.not_false, decide_true, decide_false, Function.comp, dMeth, dNew, dCut, dRep, dLcR_eq, fListOf_t, r1, show 0 + 1 + 1 + 1 < 16777216 by omega, lcGo, j0, j1, j2]
  rfl
theorem d_is_map_eq {m : List Int} (bm : Bd m) : d_is_map [.int p, iL m] = some (.bool (decide (m.length = 9) && decide (detZ (zi p m) ≠ 0))) := by
  by_cases h : m.length = 9
  · have e1 := d_determinant_eq (p := p) h bm
    have h' : ((m.length : Int) = 9) := by omega
    simp only [d_is_map, body, initR, sNil, sBreak, sCont, sSeq, sRet, sRetN, sIf, sSet, sOwn, sPut, sAug, sFor, sForT, sForR_eq, dVar, dC, dOp, hAdd_ii, hSub_ii, hMul_ii, hMod_ii, hDiv_ii, hLt_ii, hLe_ii, hGt_ii, hGe_ii, hEq_ii, hNe_ii, dNeg, hInT, hInL, hIx_iL, hIx_rL, fLen_iL, fLen_rL, cat_iL, cat_rL, cut_iL, hEqL_iL, rfold1, rfold2, rfold3, rfold4, rfold5, rfold8, foldc, foldcc, fold0, fold1, fold2, fold3, fold6, fold9, foldL, foldR, lcL_iL, lcL_rL, dIxO, dTest, dAnd, dOr, dNot, dAndV, dOrV, dNotV, dIf, dNil, dCons, dL, dTup, dCall, dLc_eq, dYes, dCat_eq, freeze, wipeR, atc_0, atc_1, atc_2, atc_3, atc_4, atc_5, atc_6, atc_7, atc_8, List.map_cons, List.map_nil, List.length_cons, List.length_nil, List.replicate, List.cons_append, List.nil_append, List.append_nil, List.getElem?_cons_zero, List.getElem?_cons_succ, List.getElem?_nil, List.set_cons_zero, List.set_cons_succ, List.set_nil, Option.bind_some, Option.map_some, Option.bind_none, Option.map_none, if_true, if_false, Bool.false_eq_true, Nat.reduceAdd, Nat.reduceSub, List.length_map, intsOf_ints, Bool.not_true, Bool.not_false, decide_true, decide_false, Function.comp, dMeth, dNew, dCut, dRep, dLcR_eq, fListOf_t, h', h, e1, dec_v]
    simp
  · have h' : ¬ ((m.length : Int) = 9) := by omega
    simp only [d_is_map, body, initR, sNil, sBreak, sCont, sSeq, sRet, sRetN, sIf, sSet, sOwn, sPut, sAug, sFor, sForT, sForR_eq, dVar, dC, dOp, hAdd_ii, hSub_ii, hMul_ii, hMod_ii, hDiv_ii, hLt_ii, hLe_ii, hGt_ii, hGe_ii, hEq_ii, hNe_ii, dNeg, hInT, hInL, hIx_iL, hIx_rL, fLen_iL, fLen_rL, cat_iL, cat_rL, cut_iL, hEqL_iL, rfold1, rfold2, rfold3, rfold4, rfold5, rfold8, foldc, foldcc, fold0, fold1, fold2, fold3, fold6, fold9, foldL, foldR, lcL_iL, lcL_rL, dIxO, dTest, dAnd, dOr, dNot, dAndV, dOrV, dNotV, dIf, dNil, dCons, dL, dTup, dCall, dLc_eq, dYes, dCat_eq, freeze, wipeR, atc_0, atc_1, atc_2, atc_3, atc_4, atc_5, atc_6, atc_7, atc_8, List.map_cons, List.map_nil, List.length_cons, List.length_nil, List.replicate, List.cons_append, List.nil_append, List.append_nil, List.getElem?_cons_zero, List.getElem?_cons_succ, List.getElem?_nil, List.set_cons_zero, List.set_cons_succ, List.set_nil, Option.bind_some, Option.map_some, Option.bind_none, Option.map_none, if_true, if_false, Bool.false_eq_true, Nat.reduceAdd, Nat.reduceSub, List.length_map, intsOf_ints, Bool.not_true, Bool.not_false, decide_true, decide_false, Function.comp, dMeth, dNew, dCut, dRep, dLcR_eq, fListOf_t, h', h]
    simp
end
end Pb
end
section
set_option Elab.async false
set_option linter.all false
set_option maxRecDepth 100000
set_option maxHeartbeats 1000000
namespace Pb
open L2 Dn Z
open PySem.W (WData)
open WrraybNeutral (nats told rowT)
theorem zr_nats {p : Nat} {x : List Int} (h : ∀ a ∈ x, 0 ≤ a) : zr p (nats x) = zi p x := by
  unfold zr zi WrraybNeutral.nats
  rw [List.map_map]
  refine List.map_congr_left fun a ha => ?_
  show c p (a.toNat : Int) = c p a
  rw [Int.toNat_of_nonneg (h a ha)]
theorem nats_len (x : List Int) : (nats x).length = x.length := by simp [WrraybNeutral.nats]
structure Row9 (x : List Int) : Prop where
  len : x.length ≤ 9
  low : ∀ a ∈ x, 0 ≤ a
  high : ∀ a ∈ x, a ≤ 4294967295
theorem Row9.bd {x : List Int} (h : Row9 x) : Bd x := fun a ha => by
  have := h.low a ha
  have := h.high a ha
  omega
theorem Row9.lt {x : List Int} (h : Row9 x) : x.length < 16777216 := by
  have := h.len
  omega
def isM (p : Nat) (x : List Int) : Bool := decide (x.length = 9) && decide (detZ (zi p x) ≠ 0)
theorem isM_len {p : Nat} {x : List Int} (h : isM p x = true) : x.length = 9 := of_decide_eq_true (Bool.and_eq_true_iff.mp h).1
theorem isM_ne {p : Nat} {x : List Int} (h : isM p x = true) : detZ (zi p x) ≠ 0 := of_decide_eq_true (Bool.and_eq_true_iff.mp h).2
theorem isMap_zi {p : Nat} [Pr p] {x : List Int} (h : Row9 x) : Rb.isMap p (nats x) = isM p x := by
  rw [isMap_eq, zr_nats h.low, nats_len]; rfl
theorem d_is_map_M {p : Nat} [Pr p] {m : List Int} (h : Row9 m) : d_is_map [.int p, iL m] = some (.bool (isM p m)) := d_is_map_eq h.bd
theorem primeOk_nat {p : Nat} [P : Pr p] : Wrrayb.primeOk p = true := (primeOk_iff p).mpr P.mem
theorem dec_odd {p : Nat} [P : Pr p] : decide ((p : Int) ∈ oddPrimes) = true := decide_eq_true (pr_odd P.mem)
theorem not_odd {p : Int} (h : p ∉ oddPrimes) : Wrrayb.primeOk p.toNat = false := by
  cases e : Wrrayb.primeOk p.toNat with
  | false => rfl
  | true => exact (h ((odd_iff p).mpr e)).elim
theorem gate_true (a : Wrrayb.Answer) : gate true a = told a := rfl
theorem gate_false (a : Wrrayb.Answer) : gate false a = [-1] := rfl
section
variable {p : Nat} [P : Pr p]
theorem d_form_Z (l : List (Z p)) (h : l.length ≤ 9) : d_form_of [.int p, iL (lift l)] = some (iL (lift (formZ l))) := by
  have e := d_form_of_eq (p := p) (lift l) (by rw [lift_len]; omega)
  rw [zi_lift] at e
  exact e
end
section
variable {p : Nat} [P : Pr p]
end
end Pb
end
section
set_option Elab.async false
set_option linter.all false
set_option maxRecDepth 100000
set_option maxHeartbeats 1000000
namespace Pb
open L2 Dn Z
open PySem.W (WData)
open WrraybNeutral (nats told rowT)
section
variable {p : Nat} [P : Pr p]
theorem lead_all {l : List (Z p)} (h : leadZ l = 0) : ∀ a ∈ l, a = 0 := fun a ha => by
  by_cases q : a = 0
  · exact q
  · exact (leadZ_ne.mpr ⟨a, ha, q⟩ h).elim
theorem inv_ne {a : Z p} (h : a ≠ 0) : a⁻¹ ≠ 0 := fun e => by
  have := mul_inv h
  rw [e] at this
  exact zero_ne_one ((Lean.Grind.Semiring.mul_zero _).symm.trans this)
theorem formZ_k {l : List (Z p)} (h : leadZ l ≠ 0) : ∃ k : Z p, k ≠ 0 ∧ formZ l = l.map (k * ·) :=
  ⟨(leadZ l)⁻¹, inv_ne h, List.map_congr_left fun a _ => by show a * _ = _ * a; grind⟩
end
section
variable {p : Nat} [P : Pr p]
theorem d_rank_of_eq {m : List Int} (hm : m.length = 9) (bm : Bd m) : d_rank_of [.int p, iL m] = some (.int (if detZ (zi p m) = 0 then if leadZ (adjZ (zi p m)) = 0 then 1 else 2 else 3)) := by
  have e1 := d_determinant_eq (p := p) hm bm
  have e2 := d_undone_eq (p := p) hm bm
  have e3 := d_first_not_zero_eq (p := p) (lift (adjZ (zi p m)))
  rw [zi_lift] at e3
  by_cases h : detZ (zi p m) = 0
  · by_cases h2 : leadZ (adjZ (zi p m)) = 0
    · simp only [d_rank_of, body, initR, sNil, sBreak, sCont, sSeq, sRet, sRetN, sIf, sSet, sOwn, sPut, sAug, sFor, sForT, sForR_eq, dVar, dC, dOp, hAdd_ii, hSub_ii, hMul_ii, hMod_ii, hDiv_ii, hLt_ii, hLe_ii, hGt_ii, hGe_ii, hEq_ii, hNe_ii, dNeg, hInT, hInL, hIx_iL, hIx_rL, fLen_iL, fLen_rL, cat_iL, cat_rL, cut_iL, hEqL_iL, rfold1, rfold2, rfold3, rfold4, rfold5, rfold8, foldc, foldcc, fold0, fold1, fold2, fold3, fold6, fold9, foldL, foldR, lcL_iL, lcL_rL, dIxO, dTest, dAnd, dOr, dNot, dAndV, dOrV, dNotV, dIf, dNil, dCons, dL, dTup, dCall, dLc_eq, dYes, dCat_eq, freeze, wipeR, atc_0, atc_1, atc_2, atc_3, atc_4, atc_5, atc_6, atc_7, atc_8, List.map_cons, List.map_nil, List.length_cons, List.length_nil, List.replicate, List.cons_append, List.nil_append, List.append_nil, List.getElem?_cons_zero, List.getElem?_cons_succ, List.getElem?_nil, List.set_cons_zero, List.set_cons_succ, List.set_nil, Option.bind_some, Option.map_some, Option.bind_none, Option.map_none, if_true, if_false, Bool.false_eq_true, Nat.reduceAdd, Nat.reduceSub, List.length_map, intsOf_ints, Bool.not_true, Bool.not_false, decide_true, decide_false, Function.comp, dMeth, dNew, dCut, dRep, dLcR_eq, fListOf_t, e1, e2, e3, dec_v, h, h2, v_zero]
    · simp only [d_rank_of, body, initR, sNil, sBreak, sCont, sSeq, sRet, sRetN, sIf, sSet, sOwn, sPut, sAug, sFor, sForT, sForR_eq, dVar, dC, dOp, hAdd_ii, hSub_ii, hMul_ii, hMod_ii, hDiv_ii, hLt_ii, hLe_ii, hGt_ii, hGe_ii, hEq_ii, hNe_ii, dNeg, hInT, hInL, hIx_iL, hIx_rL, fLen_iL, fLen_rL, cat_iL, cat_rL, cut_iL, hEqL_iL, rfold1, rfold2, rfold3, rfold4, rfold5, rfold8, foldc, foldcc, fold0, fold1, fold2, fold3, fold6, fold9, foldL, foldR, lcL_iL, lcL_rL, dIxO, dTest, dAnd, dOr, dNot, dAndV, dOrV, dNotV, dIf, dNil, dCons, dL, dTup, dCall, dLc_eq, dYes, dCat_eq, freeze, wipeR, atc_0, atc_1, atc_2, atc_3, atc_4, atc_5, atc_6, atc_7, atc_8, List.map_cons, List.map_nil, List.length_cons, List.length_nil, List.replicate, List.cons_append, List.nil_append, List.append_nil, List.getElem?_cons_zero, List.getElem?_cons_succ, List.getElem?_nil, List.set_cons_zero, List.set_cons_succ, List.set_nil, Option.bind_some, Option.map_some, Option.bind_none, Option.map_none, if_true, if_false, Bool.false_eq_true, Nat.reduceAdd, Nat.reduceSub, List.length_map, intsOf_ints, Bool.not_true, Bool.not_false, decide_true, decide_false, Function.comp, dMeth, dNew, dCut, dRep, dLcR_eq, fListOf_t, e1, e2, e3, dec_v, h, h2, v_zero]
  · simp only [d_rank_of, body, initR, sNil, sBreak, sCont, sSeq, sRet, sRetN, sIf, sSet, sOwn, sPut, sAug, sFor, sForT, sForR_eq, dVar, dC, dOp, hAdd_ii, hSub_ii, hMul_ii, hMod_ii, hDiv_ii, hLt_ii, hLe_ii, hGt_ii, hGe_ii, hEq_ii, hNe_ii, dNeg, hInT, hInL, hIx_iL, hIx_rL, fLen_iL, fLen_rL, cat_iL, cat_rL, cut_iL, hEqL_iL, rfold1, rfold2, rfold3, rfold4, rfold5, rfold8, foldc, foldcc, fold0, fold1, fold2, fold3, fold6, fold9, foldL, foldR, lcL_iL, lcL_rL, dIxO, dTest, dAnd, dOr, dNot, dAndV, dOrV, dNotV, dIf, dNil, dCons, dL, dTup, dCall, dLc_eq, dYes, dCat_eq, freeze, wipeR, atc_0, atc_1, atc_2, atc_3, atc_4, atc_5, atc_6, atc_7, atc_8, List.map_cons, List.map_nil, List.length_cons, List.length_nil, List.replicate, List.cons_append, List.nil_append, List.append_nil, List.getElem?_cons_zero, List.getElem?_cons_succ, List.getElem?_nil, List.set_cons_zero, List.set_cons_succ, List.set_nil, Option.bind_some, Option.map_some, Option.bind_none, Option.map_none, if_true, if_false, Bool.false_eq_true, Nat.reduceAdd, Nat.reduceSub, List.length_map, intsOf_ints, Bool.not_true, Bool.not_false, decide_true, decide_false, Function.comp, dMeth, dNew, dCut, dRep, dLcR_eq, fListOf_t, e1, dec_v, h]
end
end Pb
end
section
set_option Elab.async false
set_option linter.all false
set_option maxRecDepth 100000
set_option maxHeartbeats 1000000
namespace Pb
open L2 Dn Z
open PySem.W (WData)
open WrraybNeutral (nats told rowT)
def tL (ls : List (List Nat)) : WData := .list (ls.map fun v => iL (rowT v))
theorem tL_rL (ls : List (List Nat)) : rL (ls.map rowT) = tL ls := by
  unfold rL tL
  rw [List.map_map]
  rfl
theorem fLen_tL (ls : List (List Nat)) : fLen [tL ls] = some (.int (ls.length : Nat)) := by
  show some (WData.int ((ls.map _).length : Nat)) = _
  rw [List.length_map]
theorem lcL_tL {i : Nat} {ρ : Rho} {c : DT} {f : DE} {ls : List (List Nat)} (h : ls.length < 16777216) : lcL i ρ c f (tL ls) = lcGo i ρ c f (ls.map fun v => iL (rowT v)) := lcL_l (by rw [List.length_map]; exact h)
theorem foldT (ls : List (List Nat)) : WData.list (ls.map fun v => iL (rowT v)) = tL ls := rfl
section
variable {p : Nat} [P : Pr p]
theorem d_all_points_T : d_all_points [.int p] = some (tL (Rb.points p)) := by rw [d_all_points_eq, tL_rL]
theorem points_lt : (Rb.points p).length ≤ 1000 := by
  rw [points_length]
  have hl := p_le (p := p)
  have : p * p ≤ 961 := Nat.mul_le_mul hl hl
  omega
theorem filt_le {α : Type} {l : List α} (q : α → Bool) {n : Nat} (h : l.length ≤ n) : (l.filter q).length ≤ n := Nat.le_trans (List.length_filter_le q l) h
theorem count_flat : ∀ {ls : List (List Nat)}, (∀ v ∈ ls, v.length = 3) → (List.range (3 * ls.length)).map (fun i => ((ls.map rowT).getD (i / 3) []).getD (i % 3) 0) = ls.flatMap rowT
  | [], _ => rfl
  | v :: ls, h => by
    have ih := count_flat (ls := ls) fun w hw => h w (List.mem_cons_of_mem _ hw)
    obtain ⟨a, b, d, rfl⟩ := len3 (h v (List.mem_cons_self ..))
    rw [List.length_cons, show 3 * (ls.length + 1) = 3 + 3 * ls.length by omega, List.range_add, List.map_append, List.map_map, List.flatMap_cons, ← ih]
    congr 1
    refine List.map_congr_left fun i _ => ?_
    show (((rowT [a, b, d] :: ls.map rowT)).getD ((3 + i) / 3) []).getD ((3 + i) % 3) 0 = _
    rw [show (3 + i) / 3 = i / 3 + 1 by omega, show (3 + i) % 3 = i % 3 by omega, List.getD_cons_succ]
theorem d_counted_eq {ls : List (List Nat)} (h3 : ∀ v ∈ ls, v.length = 3) (hl : ls.length ≤ 1000) : d_counted [tL ls] = some (iL ((ls.length : Int) :: ls.flatMap rowT)) := by
  have e1 : lcGo 1 [some (.val (tL ls)), none] dYes (dOp hIx (dOp hIx (dVar 0) (dOp hDiv (dVar 1) (dC (.int 3)))) (dOp hMod (dVar 1) (dC (.int 3)))) (rng 0 (3 * ls.length)) = some ((List.range (3 * ls.length)).map fun i => .int (((ls.map rowT).getD (i / 3) []).getD (i % 3) 0)) := by
    rw [rng_map]
    refine lcGo_map _ _ fun i hi => ?_
    have hi := List.mem_range.mp hi
    have h1 : i / 3 < ls.length := by omega
    have a1 : hIx (tL ls) (.int ((i / 3 : Nat) : Int)) = some (iL (rowT ls[i / 3])) := by
      show hIx (.list (ls.map fun v => iL (rowT v))) _ = _
      rw [hIx_l]
      unfold atI ixN
      rw [if_pos (by omega), if_pos (by rw [List.length_map]; omega), Option.bind_some, Int.toNat_natCast, List.getElem?_map, List.getElem?_eq_getElem h1]
      rfl
    have h2 : i % 3 < (rowT ls[i / 3]).length := by
      rw [rowT_len, h3 _ (List.getElem_mem _)]; omega
    have a2 : atI ((rowT ls[i / 3]).map WData.int) ((i % 3 : Nat) : Int) = some (.int ((rowT ls[i / 3]).getD (i % 3) 0)) := by
      refine at_ints ?_
      rw [List.getD_eq_getElem?_getD, List.getElem?_eq_getElem h2]
      rfl
    have a3 : (ls.map rowT).getD (i / 3) [] = rowT ls[i / 3] := by
      rw [List.getD_eq_getElem?_getD, List.getElem?_map, List.getElem?_eq_getElem h1]
      rfl
    rw [show ((i / 3 : Nat) : Int) = (i : Int) / 3 by omega] at a1
    rw [show ((i % 3 : Nat) : Int) = (i : Int) % 3 by omega] at a2
    simp only [body, initR, sNil, sBreak, sCont, sSeq, sRet, sRetN, sIf, sSet, sOwn, sPut, sAug, sFor, sForT, sForR_eq, dVar, dC, dOp, hAdd_ii, hSub_ii, hMul_ii, hMod_ii, hDiv_ii, hLt_ii, hLe_ii, hGt_ii, hGe_ii, hEq_ii, hNe_ii, dNeg, hInT, hInL, hIx_iL, hIx_rL, fLen_iL, fLen_rL, cat_iL, cat_rL, cut_iL, hEqL_iL, rfold1, rfold2, rfold3, rfold4, rfold5, rfold8, foldc, foldcc, fold0, fold1, fold2, fold3, fold6, fold9, foldL, foldR, lcL_iL, lcL_rL, dIxO, dTest, dAnd, dOr, dNot, dAndV, dOrV, dNotV, dIf, dNil, dCons, dL, dTup, dCall, dLc_eq, dYes, dCat_eq, freeze, wipeR, atc_0, atc_1, atc_2, atc_3, atc_4, atc_5, atc_6, atc_7, atc_8, List.map_cons, List.map_nil, List.length_cons, List.length_nil, List.replicate, List.cons_append, List.nil_append, List.append_nil, List.getElem?_cons_zero, List.getElem?_cons_succ, List.getElem?_nil, List.set_cons_zero, List.set_cons_succ, List.set_nil, Option.bind_some, Option.map_some, Option.bind_none, Option.map_none, if_true, if_false, Bool.false_eq_true, Nat.reduceAdd, Nat.reduceSub, List.length_map, intsOf_ints, Bool.not_true, Bool.not_false, decide_true, decide_false, Function.comp, dMeth, dNew, dCut, dRep, dLcR_eq, fListOf_t, hMod_ii (i := (i : Int)) (j := 3) (by omega), hDiv_ii (i := (i : Int)) (j := 3) (by omega) (by omega), a1, a2, a3]
  have e2 : ((List.range (3 * ls.length)).map fun i => WData.int (((ls.map rowT).getD (i / 3) []).getD (i % 3) 0)) = (ls.flatMap rowT).map .int := by
    rw [← count_flat h3, List.map_map]
    rfl
  rw [e2] at e1
  have t1 : (3 * (ls.length : Int)).toNat = 3 * ls.length := by omega
  have hf : (ls.flatMap rowT).length ≤ 3000 := by
    rw [← count_flat h3, List.length_map, List.length_range]; omega
  have hz : 0 + 1 + (ls.flatMap rowT).length ≤ 16777216 := by omega
  simp only [d_counted, body, initR, sNil, sBreak, sCont, sSeq, sRet, sRetN, sIf, sSet, sOwn, sPut, sAug, sFor, sForT, sForR_eq, dVar, dC, dOp, hAdd_ii, hSub_ii, hMul_ii, hMod_ii, hDiv_ii, hLt_ii, hLe_ii, hGt_ii, hGe_ii, hEq_ii, hNe_ii, dNeg, hInT, hInL, hIx_iL, hIx_rL, fLen_iL, fLen_rL, cat_iL, cat_rL, cut_iL, hEqL_iL, rfold1, rfold2, rfold3, rfold4, rfold5, rfold8, foldc, foldcc, fold0, fold1, fold2, fold3, fold6, fold9, foldL, foldR, lcL_iL, lcL_rL, dIxO, dTest, dAnd, dOr, dNot, dAndV, dOrV, dNotV, dIf, dNil, dCons, dL, dTup, dCall, dLc_eq, dYes, dCat_eq, freeze, wipeR, atc_0, atc_1, atc_2, atc_3, atc_4, atc_5, atc_6, atc_7, atc_8, List.map_cons, List.map_nil, List.length_cons, List.length_nil, List.replicate, List.cons_append, List.nil_append, List.append_nil, List.getElem?_cons_zero, List.getElem?_cons_succ, List.getElem?_nil, List.set_cons_zero, List.set_cons_succ, List.set_nil, Option.bind_some, Option.map_some, Option.bind_none, Option.map_none, if_true, if_false, Bool.false_eq_true, Nat.reduceAdd, Nat.reduceSub, List.length_map, intsOf_ints, Bool.not_true, Bool.not_false, decide_true, decide_false, Function.comp, dMeth, dNew, dCut, dRep, dLcR_eq, fListOf_t, fLen_tL, hMul_ii (i := 3) (j := (ls.length : Int)) (cMul_l (by omega) (by omega)), lcRs_1 (j := 3 * (ls.length : Int)) (by omega) (by omega), t1, e1, hz]
theorem pts_sub {q : List Nat → Bool} : ∀ v ∈ (Rb.points p).filter q, v ∈ Rb.points p := fun v hv => (List.mem_filter.mp hv).1
end
end Pb
end
section
set_option Elab.async false
set_option linter.all false
set_option maxRecDepth 100000
set_option maxHeartbeats 1000000
namespace Pb
open L2 Dn Z
open PySem.W (WData)
open WrraybNeutral (nats told rowT)
section
variable {p : Nat} [P : Pr p]
theorem mul_ne {a b : Z p} (ha : a ≠ 0) (hb : b ≠ 0) : a * b ≠ 0 := by grind
end
section
variable {p : Nat} [P : Pr p]
end
end Pb
end
section
set_option Elab.async false
set_option linter.all false
set_option maxRecDepth 100000
set_option maxHeartbeats 1000000
namespace Pb
open L2 Dn Z
open PySem.W (WData)
open WrraybNeutral (nats told rowT)
section
variable {p : Nat} [P : Pr p]
end
end Pb
end
section
set_option Elab.async false
set_option linter.all false
set_option maxRecDepth 100000
set_option maxHeartbeats 1000000
namespace Pb
open L2 Dn Z
open PySem.W (WData)
open WrraybNeutral (nats told rowT)
section
variable {p : Nat} [P : Pr p]
def mixZ (s t : Z p) (x y : List (Z p)) : List (Z p) := List.zipWith (fun a b => s * a + t * b) x y
theorem mix3 (s t a b d e f g : Z p) : mixZ s t [a, b, d] [e, f, g] = [s * a + t * e, s * b + t * f, s * d + t * g] := rfl
theorem mixZ_len {s t : Z p} {x y : List (Z p)} (h : x.length = y.length) : (mixZ s t x y).length = x.length := by
  unfold mixZ
  rw [List.length_zipWith, h, Nat.min_self]
theorem lead_scale0 {k : Z p} {l : List (Z p)} (h : leadZ l ≠ 0) : leadZ (l.map (k * ·)) = 0 ↔ k = 0 := by
  constructor
  · intro e
    by_cases hk : k = 0
    · exact hk
    · rw [leadZ_scale hk] at e
      grind
  · intro e
    subst e
    by_cases q : leadZ (l.map ((0 : Z p) * ·)) = 0
    · exact q
    · obtain ⟨a, ha, hn⟩ := leadZ_ne.mp q
      obtain ⟨b, _, rfl⟩ := List.mem_map.mp ha
      exact (hn (by grind)).elim
theorem lead_map {k : Z p} {x : List (Z p)} (hk : k ≠ 0) (h : leadZ x ≠ 0) : leadZ (x.map (k * ·)) ≠ 0 := by
  rw [leadZ_scale hk]
  grind
theorem find_one {α : Type} [DecidableEq α] {l : List α} {q : α → Bool} {x : α} (hx : x ∈ l) (h : ∀ y ∈ l, q y = true ↔ y = x) : l.find? q = some x := by
  induction l with
  | nil => cases hx
  | cons y l ih =>
    rw [List.find?_cons]
    cases e : q y with
    | true => rw [(h y (List.mem_cons_self ..)).mp e]
    | false =>
      refine ih ?_ fun z hz => h z (List.mem_cons_of_mem _ hz)
      rcases List.mem_cons.mp hx with rfl | hx
      · rw [(h x (List.mem_cons_self ..)).mpr rfl] at e
        cases e
      · exact hx
theorem toNat_lt (z : Z p) : z.v.toNat < p := by
  have h0 := v_nonneg z
  have h1 := v_lt z
  omega
theorem c_toN (x : Z p) : c p (x.v.toNat : Int) = x := by rw [Int.toNat_of_nonneg (v_nonneg x), c_v]
theorem nat_c {y : Nat} (hy : y < p) {z : Z p} : y = z.v.toNat ↔ c p (y : Int) = z := by
  constructor
  · intro h
    rw [h, c_toN]
  · intro h
    exact nat_eq hy (toNat_lt z) (by rw [h, c_toN])
theorem range_zip {α β γ : Type} (f : α → β → γ) (a0 : α) (b0 : β) : ∀ {x : List α} {y : List β}, x.length = y.length → (List.range x.length).map (fun i => f (x.getD i a0) (y.getD i b0)) = List.zipWith f x y
  | [], [], _ => rfl
  | [], _ :: _, h => by simp at h
  | _ :: _, [], h => by simp at h
  | a :: x, b :: y, h => by
    have ih := range_zip f a0 b0 (x := x) (y := y) (by simpa using h)
    rw [List.length_cons, List.range_succ_eq_map, List.map_cons, List.map_map, List.zipWith_cons_cons, ← ih]
    rfl
theorem d_mixed_eq {s t : Int} {x y : List Int} {Y : WData} (hY : ∀ i : Int, hIx Y (.int i) = atI (y.map .int) i) (h : x.length = y.length) (hl : x.length ≤ 1000) (s0 : -18446744073709551616 < s) (s1 : s < 18446744073709551616) (t0 : -18446744073709551616 < t) (t1 : t < 18446744073709551616) :
    d_mixed [.int p, .int s, iL x, .int t, Y] = some (iL (lift (mixZ (c p s) (c p t) (zi p x) (zi p y)))) := by
  have hp := p_pos (p := p)
  have e1 : lcGo 5 [some (.val (.int p)), some (.val (.int s)), some (.val (iL x)), some (.val (.int t)), some (.val Y), none] dYes (dOp hMod (dOp hAdd (dOp hMul (dVar 1) (dOp hIx (dVar 2) (dVar 5))) (dOp hMul (dVar 3) (dOp hIx (dVar 4) (dVar 5)))) (dVar 0)) (rng 0 x.length) = some ((List.range x.length).map fun i => .int ((s * x.getD i 0 + t * y.getD i 0) % p)) := by
    rw [rng_map]
    refine lcGo_map _ _ fun i hi => ?_
    have hi := List.mem_range.mp hi
    have a1 : atI (x.map WData.int) (i : Int) = some (.int (x.getD i 0)) := at_ints (by rw [List.getD_eq_getElem?_getD, List.getElem?_eq_getElem hi]; rfl)
    have a2 : atI (y.map WData.int) (i : Int) = some (.int (y.getD i 0)) := at_ints (by rw [List.getD_eq_getElem?_getD, List.getElem?_eq_getElem (show i < y.length by omega)]; rfl)
    simp only [body, initR, sNil, sBreak, sCont, sSeq, sRet, sRetN, sIf, sSet, sOwn, sPut, sAug, sFor, sForT, sForR_eq, dVar, dC, dOp, hAdd_ii, hSub_ii, hMul_ii, hMod_ii, hDiv_ii, hLt_ii, hLe_ii, hGt_ii, hGe_ii, hEq_ii, hNe_ii, dNeg, hInT, hInL, hIx_iL, hIx_rL, fLen_iL, fLen_rL, cat_iL, cat_rL, cut_iL, hEqL_iL, rfold1, rfold2, rfold3, rfold4, rfold5, rfold8, foldc, foldcc, fold0, fold1, fold2, fold3, fold6, fold9, foldL, foldR, lcL_iL, lcL_rL, dIxO, dTest, dAnd, dOr, dNot, dAndV, dOrV, dNotV, dIf, dNil, dCons, dL, dTup, dCall, dLc_eq, dYes, dCat_eq, freeze, wipeR, atc_0, atc_1, atc_2, atc_3, atc_4, atc_5, atc_6, atc_7, atc_8, List.map_cons, List.map_nil, List.length_cons, List.length_nil, List.replicate, List.cons_append, List.nil_append, List.append_nil, List.getElem?_cons_zero, List.getElem?_cons_succ, List.getElem?_nil, List.set_cons_zero, List.set_cons_succ, List.set_nil, Option.bind_some, Option.map_some, Option.bind_none, Option.map_none, if_true, if_false, Bool.false_eq_true, Nat.reduceAdd, Nat.reduceSub, List.length_map, intsOf_ints, Bool.not_true, Bool.not_false, decide_true, decide_false, Function.comp, dMeth, dNew, dCut, dRep, dLcR_eq, fListOf_t, hY, a1, a2, cMul_l (i := s) (j := x.getD i 0) s0 s1, cMul_l (i := t) (j := y.getD i 0) t0 t1, hp]
  have e2 : ((List.range x.length).map fun i => WData.int ((s * x.getD i 0 + t * y.getD i 0) % p)) = (lift (mixZ (c p s) (c p t) (zi p x) (zi p y))).map .int := by
    have : (List.range x.length).map (fun i => (s * x.getD i 0 + t * y.getD i 0) % p) = lift (mixZ (c p s) (c p t) (zi p x) (zi p y)) := by
      rw [range_zip (fun a b => (s * a + t * b) % (p : Int)) 0 0 h]
      unfold lift mixZ zi
      rw [List.map_zipWith, List.zipWith_map]
      congr 1
      funext a b
      rw [← c_mul, ← c_mul, ← c_add]
      rfl
    rw [← this, List.map_map]
    rfl
  rw [e2] at e1
  have t1 : ((x.length : Nat) : Int).toNat = x.length := by omega
  simp only [d_mixed, body, initR, sNil, sBreak, sCont, sSeq, sRet, sRetN, sIf, sSet, sOwn, sPut, sAug, sFor, sForT, sForR_eq, dVar, dC, dOp, hAdd_ii, hSub_ii, hMul_ii, hMod_ii, hDiv_ii, hLt_ii, hLe_ii, hGt_ii, hGe_ii, hEq_ii, hNe_ii, dNeg, hInT, hInL, hIx_iL, hIx_rL, fLen_iL, fLen_rL, cat_iL, cat_rL, cut_iL, hEqL_iL, rfold1, rfold2, rfold3, rfold4, rfold5, rfold8, foldc, foldcc, fold0, fold1, fold2, fold3, fold6, fold9, foldL, foldR, lcL_iL, lcL_rL, dIxO, dTest, dAnd, dOr, dNot, dAndV, dOrV, dNotV, dIf, dNil, dCons, dL, dTup, dCall, dLc_eq, dYes, dCat_eq, freeze, wipeR, atc_0, atc_1, atc_2, atc_3, atc_4, atc_5, atc_6, atc_7, atc_8, List.map_cons, List.map_nil, List.length_cons, List.length_nil, List.replicate, List.cons_append, List.nil_append, List.append_nil, List.getElem?_cons_zero, List.getElem?_cons_succ, List.getElem?_nil, List.set_cons_zero, List.set_cons_succ, List.set_nil, Option.bind_some, Option.map_some, Option.bind_none, Option.map_none, if_true, if_false, Bool.false_eq_true, Nat.reduceAdd, Nat.reduceSub, List.length_map, intsOf_ints, Bool.not_true, Bool.not_false, decide_true, decide_false, Function.comp, dMeth, dNew, dCut, dRep, dLcR_eq, fListOf_t, lcRs_1 (j := (x.length : Int)) (by omega) (by omega), t1, e1]
end
end Pb
end
section
set_option Elab.async false
set_option linter.all false
set_option maxRecDepth 100000
set_option maxHeartbeats 1000000
namespace Pb
open L2 Dn Z
open PySem.W (WData)
open WrraybNeutral (nats told rowT)
end Pb
end
section
set_option Elab.async false
set_option linter.all false
set_option maxRecDepth 100000
set_option maxHeartbeats 1000000
namespace Pb
open L2 Dn Z
open PySem.W (WData)
open WrraybNeutral (nats told rowT)
section
variable {p : Nat} [P : Pr p]
def idZ : List (Z p) := [1, 0, 0, 0, 1, 0, 0, 0, 1]
theorem lift_id : lift (idZ (p := p)) = [1, 0, 0, 0, 1, 0, 0, 0, 1] := by
  simp only [lift, idZ, List.map_cons, List.map_nil, v_one, v_zero]
theorem lift_iff (l : List (Z p)) : lift l = [1, 0, 0, 0, 1, 0, 0, 0, 1] ↔ l = idZ := by
  rw [← lift_id (p := p)]
  exact ⟨lift_inj, fun h => by rw [h]⟩
theorem d_leaves_all_eq {m : List Int} (hm : m.length = 9) : d_leaves_all [.int p, iL m] = some (.bool (decide (formZ (zi p m) = idZ))) := by
  have e1 := d_form_of_eq (p := p) m (by omega)
  have e2 : gd_IDENTITY = .tuple (([1, 0, 0, 0, 1, 0, 0, 0, 1] : List Int).map .int) := rfl
  simp only [d_leaves_all, body, initR, sRet, dOp, dCall, dCons, dNil, dVar, dC, dL, dNew, e1, e2, fListOf_t, List.map_cons, List.map_nil, List.cons_append, List.nil_append, List.length_cons, List.length_nil, Nat.reduceAdd, Nat.reduceSub, List.replicate, List.getElem?_cons_zero, List.getElem?_cons_succ, Option.bind_some, Option.map_some, fold9, hEqL_iL]
  congr 2
  exact decide_eq_decide.mpr (lift_iff _)
def lst (m : M3 (Z p)) : List (Z p) := [m.a, m.b, m.c, m.d, m.e, m.f, m.g, m.h, m.i]
theorem lst_sc {k : Z p} (hk : k ≠ 0) : formZ (lst (M3.sc k M3.one)) = idZ := by
  have e : lst (M3.sc k M3.one) = (idZ (p := p)).map (k * ·) := rfl
  rw [e, formZ_scale hk]
  have h1 : leadZ (idZ (p := p)) = 1 := by
    unfold idZ leadZ
    rw [if_neg fun h => zero_ne_one h.symm]
  unfold formZ
  rw [h1, one_inv]
  conv => rhs; rw [← List.map_id idZ]
  exact List.map_congr_left fun a _ => by show a * 1 = a; grind
end
end Pb
end
section
set_option Elab.async false
set_option linter.all false
set_option maxRecDepth 100000
set_option maxHeartbeats 1000000
namespace Pb
open L2 Dn Z
open WrraybNeutral (nats told rowT)
section
variable {p : Nat} [P : Pr p]
abbrev o3 : List (Z p) := [0, 0, 0]
theorem join0 {x y : List (Z p)} : leadZ (joinZ x y) = 0 ↔ joinZ x y = o3 := by
  unfold joinZ
  rw [lead3]
  simp
theorem par {x y : List (Z p)} (hx : x.length = 3) (hy : y.length = 3) (nx : leadZ x ≠ 0) (h : joinZ y x = o3) : ∃ a : Z p, y = x.map (a * ·) := by
  obtain ⟨x0, x1, x2, rfl⟩ := len3 hx
  obtain ⟨y0, y1, y2, rfl⟩ := len3 hy
  rw [join3] at h
  simp only [List.cons.injEq, and_true] at h
  obtain ⟨h1, h2, h3⟩ := h
  by_cases q0 : x0 = 0
  · by_cases q1 : x1 = 0
    · by_cases q2 : x2 = 0
      · exact (nx (lead3.mpr ⟨q0, q1, q2⟩)).elim
      · refine ⟨y2 * x2⁻¹, ?_⟩
        simp only [List.map_cons, List.map_nil, List.cons.injEq, and_true]
        refine ⟨by grind, by grind, by grind⟩
    · refine ⟨y1 * x1⁻¹, ?_⟩
      simp only [List.map_cons, List.map_nil, List.cons.injEq, and_true]
      refine ⟨by grind, by grind, by grind⟩
  · refine ⟨y0 * x0⁻¹, ?_⟩
    simp only [List.map_cons, List.map_nil, List.cons.injEq, and_true]
    refine ⟨by grind, by grind, by grind⟩
def rest (k : Z p) (m : List (Z p)) : List (Z p) := [az m 0 - k, az m 1, az m 2, az m 3, az m 4 - k, az m 5, az m 6, az m 7, az m 8 - k]
theorem rest9 (k a b d e f g h i j : Z p) : rest k [a, b, d, e, f, g, h, i, j] = [a - k, b, d, e, f - k, g, h, i, j - k] := rfl
def Rows (m u : List (Z p)) : Prop := joinZ (rowZ m 0) u = o3 ∧ joinZ (rowZ m 1) u = o3 ∧ joinZ (rowZ m 2) u = o3
def St (m x : List (Z p)) : Prop := joinZ (applyZ m x) x = o3
theorem app_ne {m x : List (Z p)} (hm : m.length = 9) (hx : x.length = 3) (h : detZ m ≠ 0) (nx : leadZ x ≠ 0) : leadZ (applyZ m x) ≠ 0 := fun e => by
  obtain ⟨a, b, d, e', f, g, h', i, j, rfl⟩ := len9 hm
  obtain ⟨x, y, z, rfl⟩ := len3 hx
  rw [app9] at e
  obtain ⟨h1, h2, h3⟩ := lead3.mp e
  rw [det9] at h
  apply nx
  rw [lead3]
  have k1 : (a * (f * j - g * i) + b * (g * h' - e' * j) + d * (e' * i - f * h')) * x = 0 := by grind
  have k2 : (a * (f * j - g * i) + b * (g * h' - e' * j) + d * (e' * i - f * h')) * y = 0 := by grind
  have k3 : (a * (f * j - g * i) + b * (g * h' - e' * j) + d * (e' * i - f * h')) * z = 0 := by grind
  generalize a * (f * j - g * i) + b * (g * h' - e' * j) + d * (e' * i - f * h') = D at *
  refine ⟨by grind, by grind, by grind⟩
theorem rows_stay {m u x : List (Z p)} {k : Z p} (hm : m.length = 9) (hu : u.length = 3) (hx : x.length = 3) (nu : leadZ u ≠ 0) (R : Rows (rest k m) u) (hd : dotZ x u = 0) : applyZ m x = x.map (k * ·) := by
  obtain ⟨a, b, d, e, f, g, h, i, j, rfl⟩ := len9 hm
  obtain ⟨x, y, z, rfl⟩ := len3 hx
  rw [rest9] at R
  obtain ⟨h0, h1, h2⟩ := R
  rw [row9_0] at h0
  rw [row9_1] at h1
  rw [row9_2] at h2
  obtain ⟨c0, e0⟩ := par hu rfl nu h0
  obtain ⟨c1, e1⟩ := par hu rfl nu h1
  obtain ⟨c2, e2⟩ := par hu rfl nu h2
  obtain ⟨u0, u1, u2, rfl⟩ := len3 hu
  rw [dot3] at hd
  clear h0 h1 h2 nu hm hu hx
  simp only [List.map_cons, List.map_nil, List.cons.injEq, and_true] at e0 e1 e2
  obtain ⟨e00, e01, e02⟩ := e0
  obtain ⟨e10, e11, e12⟩ := e1
  obtain ⟨e20, e21, e22⟩ := e2
  rw [app9]
  simp only [List.map_cons, List.map_nil, List.cons.injEq, and_true]
  have f0 : a * x + b * y + d * z = k * x + c0 * (x * u0 + y * u1 + z * u2) := by grind
  have f1 : e * x + f * y + g * z = k * y + c1 * (x * u0 + y * u1 + z * u2) := by grind
  have f2 : h * x + i * y + j * z = k * z + c2 * (x * u0 + y * u1 + z * u2) := by grind
  rw [f0, f1, f2, hd]
  refine ⟨by grind, by grind, by grind⟩
theorem st_of {m x : List (Z p)} {k : Z p} (hx : x.length = 3) (h : applyZ m x = x.map (k * ·)) : St m x := by
  unfold St
  rw [h]
  obtain ⟨x, y, z, rfl⟩ := len3 hx
  simp only [List.map_cons, List.map_nil, join3, List.cons.injEq, and_true]
  refine ⟨by grind, by grind, by grind⟩
theorem two_stay {m u a b : List (Z p)} {s : Z p} (hm : m.length = 9) (hu : u.length = 3) (ha : a.length = 3) (hb : b.length = 3) (nu : leadZ u ≠ 0) (hs : s ≠ 0) (hj : joinZ a b = u.map (s * ·)) (na : leadZ a ≠ 0) (nb : leadZ b ≠ 0) (nab : leadZ (mixZ 1 1 a b) ≠ 0)
    (sa : St m a) (sb : St m b) (sab : St m (mixZ 1 1 a b)) : ∃ k : Z p, applyZ m a = a.map (k * ·) ∧ Rows (rest k m) u := by
  obtain ⟨k, ek⟩ := par ha (applyZ_len m a) na sa
  obtain ⟨l, el⟩ := par hb (applyZ_len m b) nb sb
  obtain ⟨n, en⟩ := par (by rw [mixZ_len (by rw [ha, hb]), ha]) (applyZ_len m _) nab sab
  refine ⟨k, ek, ?_⟩
  clear sa sb sab na nb nab
  have nj : leadZ (joinZ a b) ≠ 0 := by
    rw [hj]
    exact lead_map hs nu
  obtain ⟨a0, a1, a2, rfl⟩ := len3 ha
  obtain ⟨b0, b1, b2, rfl⟩ := len3 hb
  obtain ⟨u0, u1, u2, rfl⟩ := len3 hu
  obtain ⟨m0, m1, m2, m3, m4, m5, m6, m7, m8, rfl⟩ := len9 hm
  rw [join3] at hj nj
  rw [mix3] at en
  rw [app9] at ek el en
  simp only [List.map_cons, List.map_nil, List.cons.injEq, and_true] at ek el en hj
  obtain ⟨k0, k1, k2⟩ := ek
  obtain ⟨l0, l1, l2⟩ := el
  obtain ⟨n0, n1, n2⟩ := en
  obtain ⟨j0, j1, j2⟩ := hj
  clear hm ha hb hu nu
  have q0 : (k - n) * a0 + (l - n) * b0 = 0 := by grind
  have q1 : (k - n) * a1 + (l - n) * b1 = 0 := by grind
  have q2 : (k - n) * a2 + (l - n) * b2 = 0 := by grind
  have kl : k = l := by
    have g : ∀ J : Z p, J ∈ [a1 * b2 - a2 * b1, a2 * b0 - a0 * b2, a0 * b1 - a1 * b0] → (k - n) * J = 0 ∧ (l - n) * J = 0 := by
      intro J hJ
      simp only [List.mem_cons, List.not_mem_nil, or_false] at hJ
      rcases hJ with rfl | rfl | rfl <;> refine ⟨by grind, by grind⟩
    obtain ⟨J, hJ, hn⟩ := leadZ_ne.mp nj
    obtain ⟨g1, g2⟩ := g J hJ
    grind
  subst kl
  clear n0 n1 n2 q0 q1 q2 nj
  have tri : ∀ r0 r1 r2 : Z p, r0 * a0 + r1 * a1 + r2 * a2 = 0 → r0 * b0 + r1 * b1 + r2 * b2 = 0 → joinZ [r0, r1, r2] [u0, u1, u2] = o3 := by
    intro r0 r1 r2 ra rb
    rw [join3]
    have t0 : s * (r1 * u2 - r2 * u1) = 0 := by
      have : s * (r1 * u2 - r2 * u1) = a0 * (r0 * b0 + r1 * b1 + r2 * b2) - b0 * (r0 * a0 + r1 * a1 + r2 * a2) := by grind
      rw [this, ra, rb]; grind
    have t1 : s * (r2 * u0 - r0 * u2) = 0 := by
      have : s * (r2 * u0 - r0 * u2) = a1 * (r0 * b0 + r1 * b1 + r2 * b2) - b1 * (r0 * a0 + r1 * a1 + r2 * a2) := by grind
      rw [this, ra, rb]; grind
    have t2 : s * (r0 * u1 - r1 * u0) = 0 := by
      have : s * (r0 * u1 - r1 * u0) = a2 * (r0 * b0 + r1 * b1 + r2 * b2) - b2 * (r0 * a0 + r1 * a1 + r2 * a2) := by grind
      rw [this, ra, rb]; grind
    simp only [List.cons.injEq, and_true]
    clear k0 k1 k2 l0 l1 l2 j0 j1 j2 ra rb
    refine ⟨by grind, by grind, by grind⟩
  unfold Rows
  rw [rest9, row9_0, row9_1, row9_2]
  refine ⟨tri _ _ _ (by grind) (by grind), tri _ _ _ (by grind) (by grind), tri _ _ _ (by grind) (by grind)⟩
theorem line_stays {m u : List (Z p)} (hm : m.length = 9) (hu : u.length = 3) (h : detZ m ≠ 0) (nu : leadZ u ≠ 0) (all : ∀ x : List (Z p), x.length = 3 → leadZ x ≠ 0 → dotZ x u = 0 → St m x) : ∃ k : Z p, k ≠ 0 ∧ Rows (rest k m) u := by
  have key : ∀ (a b : List (Z p)) (s : Z p), a.length = 3 → b.length = 3 → s ≠ 0 → joinZ a b = u.map (s * ·) → leadZ a ≠ 0 → leadZ b ≠ 0 → leadZ (mixZ 1 1 a b) ≠ 0 → dotZ a u = 0 → dotZ b u = 0 → ∃ k : Z p, k ≠ 0 ∧ Rows (rest k m) u := by
    intro a b s ha hb hs hj na nb nab da db
    have dab : dotZ (mixZ 1 1 a b) u = 0 := by
      obtain ⟨a0, a1, a2, rfl⟩ := len3 ha
      obtain ⟨b0, b1, b2, rfl⟩ := len3 hb
      obtain ⟨u0, u1, u2, rfl⟩ := len3 hu
      rw [mix3]
      rw [dot3] at *
      grind
    obtain ⟨k, e, R⟩ := two_stay hm hu ha hb nu hs hj na nb nab (all a ha na da) (all b hb nb db) (all _ (by rw [mixZ_len (by rw [ha, hb]), ha]) nab dab)
    refine ⟨k, fun q => ?_, R⟩
    have := app_ne hm ha h na
    rw [e, q] at this
    apply this
    obtain ⟨a0, a1, a2, rfl⟩ := len3 ha
    simp only [List.map_cons, List.map_nil]
    exact lead3.mpr ⟨by grind, by grind, by grind⟩
  obtain ⟨u0, u1, u2, rfl⟩ := len3 hu
  have nz : ∀ {x y z : Z p}, x ≠ 0 ∨ y ≠ 0 ∨ z ≠ 0 → leadZ [x, y, z] ≠ 0 := fun {x y z} h e => by
    obtain ⟨h1, h2, h3⟩ := lead3.mp e
    rcases h with h | h | h
    · exact h h1
    · exact h h2
    · exact h h3
  clear all
  by_cases q2 : u2 = 0
  · by_cases q1 : u1 = 0
    · have q0 : u0 ≠ 0 := fun q => nu (lead3.mpr ⟨q, q1, q2⟩)
      refine key [-u2, 0, u0] [u1, -u0, 0] u0 rfl rfl q0 ?_ (nz (.inr (.inr q0))) (nz (.inr (.inl (by grind)))) ?_ (by rw [dot3]; grind) (by rw [dot3]; grind)
      · rw [join3]
        simp only [List.map_cons, List.map_nil, List.cons.injEq, and_true]
        refine ⟨by grind, by grind, by grind⟩
      · rw [mix3]
        exact nz (.inr (.inr (by grind)))
    · refine key [0, u2, -u1] [u1, -u0, 0] (-u1) rfl rfl (by grind) ?_ (nz (.inr (.inr (by grind)))) (nz (.inl q1)) ?_ (by rw [dot3]; grind) (by rw [dot3]; grind)
      · rw [join3]
        simp only [List.map_cons, List.map_nil, List.cons.injEq, and_true]
        refine ⟨by grind, by grind, by grind⟩
      · rw [mix3]
        exact nz (.inl (by grind))
  · refine key [0, u2, -u1] [-u2, 0, u0] u2 rfl rfl q2 ?_ (nz (.inr (.inl q2))) (nz (.inl (by grind))) ?_ (by rw [dot3]; grind) (by rw [dot3]; grind)
    · rw [join3]
      simp only [List.map_cons, List.map_nil, List.cons.injEq, and_true]
      refine ⟨by grind, by grind, by grind⟩
    · rw [mix3]
      exact nz (.inr (.inl (by grind)))
theorem scalar_of {m : List (Z p)} {k : Z p} (hm : m.length = 9) (h : detZ m ≠ 0) (e : rest k m = [0, 0, 0, 0, 0, 0, 0, 0, 0]) : formZ m = idZ := by
  obtain ⟨a, b, d, e', f, g, h', i, j, rfl⟩ := len9 hm
  rw [rest9] at e
  simp only [List.cons.injEq, and_true] at e
  obtain ⟨e0, e1, e2, e3, e4, e5, e6, e7, e8⟩ := e
  have hk : k ≠ 0 := fun q => by
    rw [det9] at h
    exact h (by grind)
  have : [a, b, d, e', f, g, h', i, j] = lst (M3.sc k M3.one) := by
    unfold lst M3.sc M3.one
    simp only [List.cons.injEq, and_true]
    refine ⟨by grind, by grind, by grind, by grind, by grind, by grind, by grind, by grind, by grind⟩
  rw [this, lst_sc hk]
theorem of_scalar {m : List (Z p)} (hm : m.length = 9) (h : formZ m = idZ) : ∃ k : Z p, k ≠ 0 ∧ rest k m = [0, 0, 0, 0, 0, 0, 0, 0, 0] := by
  have hl : leadZ m ≠ 0 := fun q => by
    have : az (formZ m) 0 = 0 := by
      have e := lead_all q
      obtain ⟨a, b, d, e', f, g, h', i, j, rfl⟩ := len9 hm
      show a * (leadZ [a, b, d, e', f, g, h', i, j])⁻¹ = 0
      rw [e a (by simp)]
      grind
    rw [h] at this
    exact zero_ne_one this.symm
  have := formZ_of hl
  rw [h] at this
  refine ⟨leadZ m, hl, ?_⟩
  generalize leadZ m = k at *
  rw [this]
  unfold idZ
  simp only [List.map_cons, List.map_nil, rest9, List.cons.injEq, and_true]
  refine ⟨by grind, by grind, by grind, by grind, by grind, by grind, by grind, by grind, by grind⟩
theorem two_lines {m u w : List (Z p)} {k l : Z p} (hm : m.length = 9) (h : detZ m ≠ 0) (hu : u.length = 3) (hw : w.length = 3) (nu : leadZ u ≠ 0) (nw : leadZ w ≠ 0) (ne : leadZ (joinZ u w) ≠ 0) (R1 : Rows (rest k m) u) (R2 : Rows (rest l m) w) : formZ m = idZ := by
  have d1 : dotZ (joinZ u w) u = 0 := by
    obtain ⟨u0, u1, u2, rfl⟩ := len3 hu
    obtain ⟨w0, w1, w2, rfl⟩ := len3 hw
    rw [join3, dot3]; grind
  have d2 : dotZ (joinZ u w) w = 0 := by
    obtain ⟨u0, u1, u2, rfl⟩ := len3 hu
    obtain ⟨w0, w1, w2, rfl⟩ := len3 hw
    rw [join3, dot3]; grind
  have a1 := rows_stay hm hu (joinZ_len u w) nu R1 d1
  have a2 := rows_stay hm hw (joinZ_len u w) nw R2 d2
  have kl : k = l := by
    rw [a1] at a2
    obtain ⟨J, hJ, hn⟩ := leadZ_ne.mp ne
    have := List.map_inj_left.mp a2 J hJ
    grind
  subst kl
  have z : ∀ r : List (Z p), r.length = 3 → joinZ r u = o3 → joinZ r w = o3 → r = o3 := by
    intro r hr h1 h2
    obtain ⟨c1, e1⟩ := par hu hr nu h1
    rw [e1] at h2
    have e2 : joinZ (u.map (c1 * ·)) w = (joinZ u w).map (c1 * ·) := by
      obtain ⟨u0, u1, u2, rfl⟩ := len3 hu
      obtain ⟨w0, w1, w2, rfl⟩ := len3 hw
      simp only [List.map_cons, List.map_nil, join3, List.cons.injEq, and_true]
      refine ⟨by grind, by grind, by grind⟩
    rw [e2] at h2
    have : c1 = 0 := by
      refine (lead_scale0 ne).mp ?_
      rw [h2]
      exact lead3.mpr ⟨rfl, rfl, rfl⟩
    rw [e1, this]
    obtain ⟨u0, u1, u2, rfl⟩ := len3 hu
    simp only [List.map_cons, List.map_nil, List.cons.injEq, and_true]
    refine ⟨by grind, by grind, by grind⟩
  refine scalar_of (k := k) hm h ?_
  obtain ⟨a, b, d, e', f, g, h', i, j, rfl⟩ := len9 hm
  rw [rest9] at *
  obtain ⟨r0, r1, r2⟩ := R1
  obtain ⟨s0, s1, s2⟩ := R2
  rw [row9_0] at r0 s0
  rw [row9_1] at r1 s1
  rw [row9_2] at r2 s2
  have z0 := z _ rfl r0 s0
  have z1 := z _ rfl r1 s1
  have z2 := z _ rfl r2 s2
  simp only [List.cons.injEq, and_true] at z0 z1 z2
  obtain ⟨y0, y1, y2⟩ := z0
  obtain ⟨y3, y4, y5⟩ := z1
  obtain ⟨y6, y7, y8⟩ := z2
  simp only [List.cons.injEq, and_true]
  exact ⟨y0, y1, y2, y3, y4, y5, y6, y7, y8⟩
theorem rows_of_adj {m : List (Z p)} (hm : m.length = 9) (h : leadZ (adjZ m) = 0) {i : Nat} (hi : i < 3) : Rows m (rowZ m i) := by
  have all := lead_all h
  obtain ⟨a, b, d, e, f, g, h', k, j, rfl⟩ := len9 hm
  rw [adj9] at all
  have h0 := all (f * j - g * k) (by simp)
  have h1 := all (k * d - j * b) (by simp)
  have h2 := all (b * g - d * f) (by simp)
  have h3 := all (g * h' - e * j) (by simp)
  have h4 := all (j * a - h' * d) (by simp)
  have h5 := all (d * e - a * g) (by simp)
  have h6 := all (e * k - f * h') (by simp)
  have h7 := all (h' * b - k * a) (by simp)
  have h8 := all (a * f - b * e) (by simp)
  clear all h
  have hi' : i = 0 ∨ i = 1 ∨ i = 2 := by omega
  unfold Rows
  rcases hi' with rfl | rfl | rfl <;> simp only [row9_0, row9_1, row9_2, join3, List.cons.injEq, and_true] <;> refine ⟨⟨by grind, by grind, by grind⟩, ⟨by grind, by grind, by grind⟩, ⟨by grind, by grind, by grind⟩⟩
theorem adj_of_rows {m u : List (Z p)} (hm : m.length = 9) (hu : u.length = 3) (nu : leadZ u ≠ 0) (R : Rows m u) : detZ m = 0 ∧ leadZ (adjZ m) = 0 := by
  obtain ⟨a, b, d, e, f, g, h, i, j, rfl⟩ := len9 hm
  obtain ⟨r0, r1, r2⟩ := R
  rw [row9_0] at r0
  rw [row9_1] at r1
  rw [row9_2] at r2
  obtain ⟨c0, e0⟩ := par hu rfl nu r0
  obtain ⟨c1, e1⟩ := par hu rfl nu r1
  obtain ⟨c2, e2⟩ := par hu rfl nu r2
  obtain ⟨u0, u1, u2, rfl⟩ := len3 hu
  simp only [List.map_cons, List.map_nil, List.cons.injEq, and_true] at e0 e1 e2
  obtain ⟨rfl, rfl, rfl⟩ := e0
  obtain ⟨rfl, rfl, rfl⟩ := e1
  obtain ⟨rfl, rfl, rfl⟩ := e2
  refine ⟨by rw [det9]; grind, ?_⟩
  rw [adj9]
  have : ∀ l : List (Z p), (∀ a ∈ l, a = 0) → leadZ l = 0 := fun l hl => by
    by_cases q : leadZ l = 0
    · exact q
    · obtain ⟨a, ha, hn⟩ := leadZ_ne.mp q
      exact (hn (hl a ha)).elim
  refine this _ fun x hx => ?_
  simp only [List.mem_cons, List.not_mem_nil, or_false] at hx
  rcases hx with rfl | rfl | rfl | rfl | rfl | rfl | rfl | rfl | rfl <;> grind
theorem all_stay {m : List (Z p)} (hm : m.length = 9) (h : detZ m ≠ 0) (all : ∀ x : List (Z p), x.length = 3 → leadZ x ≠ 0 → St m x) : formZ m = idZ := by
  have o1 : leadZ ([1, 0, 0] : List (Z p)) ≠ 0 := fun q => zero_ne_one (lead3.mp q).1.symm
  have o2 : leadZ ([0, 1, 0] : List (Z p)) ≠ 0 := fun q => zero_ne_one (lead3.mp q).2.1.symm
  obtain ⟨k, _, R1⟩ := line_stays hm (u := [1, 0, 0]) rfl h o1 fun x hx nx _ => all x hx nx
  obtain ⟨l, _, R2⟩ := line_stays hm (u := [0, 1, 0]) rfl h o2 fun x hx nx _ => all x hx nx
  refine two_lines hm h rfl rfl o1 o2 ?_ R1 R2
  rw [join3]
  intro q
  have := (lead3.mp q).2.2
  exact zero_ne_one (p := p) (by grind)
end
end Pb
end
section
set_option Elab.async false
set_option linter.all false
set_option maxRecDepth 100000
set_option maxHeartbeats 1000000
namespace Pb
open L2 Dn Z
open PySem.W (WData)
open WrraybNeutral (nats told rowT)
section
variable {p : Nat} [P : Pr p]
theorem count_one {q : Nat → Bool} {x : Nat} (hx : x < p) (h : ∀ y, y < p → (q y = true ↔ y = x)) : (List.range p).countP q = 1 := by
  rw [List.countP_congr (q := fun y => y == x) fun y hy => by rw [h y (List.mem_range.mp hy)]; simp]
  show (List.range p).count x = 1
  rw [List.nodup_range.count, if_pos (List.mem_range.mpr hx)]
theorem count_none {q : Nat → Bool} {l : List Nat} (h : ∀ y ∈ l, q y = false) : l.countP q = 0 := by
  rw [List.countP_eq_zero]
  intro y hy
  rw [h y hy]
  simp
theorem count_all {q : Nat → Bool} {l : List Nat} (h : ∀ y ∈ l, q y = true) : l.countP q = l.length := by
  rw [List.countP_eq_length]
  exact h
theorem sum_const {f : Nat → Nat} {k : Nat} : ∀ {l : List Nat}, (∀ y ∈ l, f y = k) → (l.map f).sum = k * l.length
  | [], _ => by simp
  | a :: l, h => by
    have ih := sum_const (l := l) fun y hy => h y (List.mem_cons_of_mem _ hy)
    rw [List.map_cons, List.sum_cons, ih, h a (List.mem_cons_self ..), List.length_cons, Nat.mul_succ, Nat.add_comm]
theorem sum_one {f : Nat → Nat} {k x : Nat} : ∀ {l : List Nat}, l.Nodup → x ∈ l → (∀ y ∈ l, f y = if y = x then k else 0) → (l.map f).sum = k
  | [], _, hx, _ => by cases hx
  | a :: l, hn, hx, h => by
    obtain ⟨h1, h2⟩ := List.nodup_cons.mp hn
    rw [List.map_cons, List.sum_cons, h a (List.mem_cons_self ..)]
    by_cases q : a = x
    · subst q
      rw [if_pos rfl, sum_const (k := 0) fun y hy => by
        have e : y ≠ a := fun e => h1 (by rw [← e]; exact hy)
        rw [h y (List.mem_cons_of_mem _ hy), if_neg e]]
      omega
    · rw [if_neg q, sum_one h2 (by rcases List.mem_cons.mp hx with e | e; exact (q e.symm).elim; exact e) fun y hy => h y (List.mem_cons_of_mem _ hy)]
      omega
theorem count_lin {a b : Z p} (h : a ≠ 0) : (List.range p).countP (fun (z : Nat) => decide (b + a * c p (z : Int) = 0)) = 1 := by
  refine count_one (toNat_lt (-b * a⁻¹)) fun y hy => ?_
  rw [nat_c hy, decide_eq_true_eq]
  constructor <;> intro q <;> grind
theorem zr3 (a b d : Nat) : zr p [a, b, d] = [c p (a : Int), c p (b : Int), c p (d : Int)] := rfl
theorem c_0 : c p ((0 : Nat) : Int) = 0 := rfl
theorem c_1 : c p ((1 : Nat) : Int) = 1 := rfl
theorem line_count {u : List (Z p)} (hu : u.length = 3) (nu : leadZ u ≠ 0) : ((Rb.points p).filter fun x => decide (dotZ (zr p x) u = 0)).length = p + 1 := by
  obtain ⟨u0, u1, u2, rfl⟩ := len3 hu
  have i1 : ∀ z : Nat, decide (dotZ (zr p [0, 1, z]) [u0, u1, u2] = 0) = decide (u1 + u2 * c p (z : Int) = 0) := fun z => by
    refine decide_eq_decide.mpr ?_
    rw [zr3, dot3, c_0, c_1]
    constructor <;> intro q <;> grind
  have i2 : ∀ y z : Nat, decide (dotZ (zr p [1, y, z]) [u0, u1, u2] = 0) = decide ((u0 + u1 * c p (y : Int)) + u2 * c p (z : Int) = 0) := fun y z => by
    refine decide_eq_decide.mpr ?_
    rw [zr3, dot3, c_1]
    constructor <;> intro q <;> grind
  have i0 : decide (dotZ (zr p [0, 0, 1]) [u0, u1, u2] = 0) = decide (u2 = 0) := by
    refine decide_eq_decide.mpr ?_
    rw [zr3, dot3, c_0, c_1]
    constructor <;> intro q <;> grind
  rw [← List.countP_eq_length_filter]
  unfold Rb.points
  rw [List.countP_cons, List.countP_append, List.countP_map, List.countP_flatMap, i0]
  have j1 : (List.range p).countP ((fun x => decide (dotZ (zr p x) [u0, u1, u2] = 0)) ∘ fun z => [0, 1, z]) = (List.range p).countP (fun (z : Nat) => decide (u1 + u2 * c p (z : Int) = 0)) := by
    congr 1
    funext z
    exact i1 z
  have j2 : ∀ y, (List.countP (fun x => decide (dotZ (zr p x) [u0, u1, u2] = 0)) ∘ fun y => (List.range p).map fun z => [1, y, z]) y = (List.range p).countP (fun (z : Nat) => decide ((u0 + u1 * c p (y : Int)) + u2 * c p (z : Int) = 0)) := fun y => by
    show List.countP _ ((List.range p).map fun z => [1, y, z]) = _
    rw [List.countP_map]
    congr 1
    funext z
    exact i2 y z
  rw [j1]
  by_cases q2 : u2 = 0
  · subst q2
    have f0 : ∀ (b : Z p) (z : Nat), decide (b + 0 * c p (z : Int) = 0) = decide (b = 0) := fun b z => decide_eq_decide.mpr (by constructor <;> intro q <;> grind)
    simp only [f0] at j2 ⊢
    by_cases q1 : u1 = 0
    · subst q1
      have q0 : u0 ≠ 0 := fun q => nu (lead3.mpr ⟨q, rfl, rfl⟩)
      rw [count_all (l := List.range p) fun y _ => decide_eq_true rfl, List.length_range, sum_const (k := 0) fun y hy => by
        rw [j2 y]
        exact count_none fun z _ => decide_eq_false fun e => q0 (by grind)]
      simp
    · rw [count_none (l := List.range p) fun y _ => decide_eq_false q1, sum_one (k := p) (x := (-u0 * u1⁻¹).v.toNat) List.nodup_range (List.mem_range.mpr (toNat_lt _)) fun y hy => by
        rw [j2 y]
        have hy := List.mem_range.mp hy
        by_cases q : y = (-u0 * u1⁻¹).v.toNat
        · rw [if_pos q]
          have := (nat_c hy).mp q
          rw [count_all fun z _ => decide_eq_true (by rw [this]; grind), List.length_range]
        · rw [if_neg q]
          exact count_none fun z _ => decide_eq_false fun e => q ((nat_c hy).mpr (by grind))]
      simp
  · rw [count_lin q2, sum_const (k := 1) fun y _ => by rw [j2 y]; exact count_lin q2, List.length_range]
    simp [q2]
    omega
theorem pt_lead {v : List Nat} (h : v ∈ Rb.points p) : leadZ (zr p v) = 1 := by
  have o : (1 : Z p) ≠ 0 := fun q => zero_ne_one q.symm
  rcases mem_points.mp h with rfl | ⟨d, hd, rfl⟩ | ⟨b, d, hb, hd, rfl⟩
  · rw [zr3, c_0, c_1]
    simp [leadZ, o]
  · rw [zr3, c_0, c_1]
    simp [leadZ, o]
  · rw [zr3, c_1]
    simp [leadZ, o]
theorem pt_ne {v : List Nat} (h : v ∈ Rb.points p) : leadZ (zr p v) ≠ 0 := by
  rw [pt_lead h]
  exact fun q => zero_ne_one q.symm
theorem pt_form {v : List Nat} (h : v ∈ Rb.points p) : formZ (zr p v) = zr p v := by
  unfold formZ
  rw [pt_lead h, one_inv]
  conv => rhs; rw [← List.map_id (zr p v)]
  exact List.map_congr_left fun a _ => by show a * 1 = a; grind
theorem pt_eq {v w : List Nat} (hv : v ∈ Rb.points p) (hw : w ∈ Rb.points p) (h : formZ (zr p v) = formZ (zr p w)) : v = w := by
  have lt : ∀ {v : List Nat}, v ∈ Rb.points p → ∀ a ∈ v, a < p := fun {v} hv a ha => by
    have h3 := p_ge (p := p)
    rcases mem_points.mp hv with rfl | ⟨d, hd, rfl⟩ | ⟨b, d, hb, hd, rfl⟩ <;> simp at ha <;> omega
  rw [pt_form hv, pt_form hw] at h
  obtain ⟨a, b, d, rfl⟩ := len3 (pt_len hv)
  obtain ⟨e, f, g, rfl⟩ := len3 (pt_len hw)
  rw [zr3, zr3] at h
  simp only [List.cons.injEq, and_true] at h
  obtain ⟨h1, h2, h3⟩ := h
  rw [nat_eq (lt hv a (by simp)) (lt hw e (by simp)) h1, nat_eq (lt hv b (by simp)) (lt hw f (by simp)) h2, nat_eq (lt hv d (by simp)) (lt hw g (by simp)) h3]
def ptOf (x : List (Z p)) : List Nat := Rb.form p (x.map (·.v.toNat))
theorem zr_toN (x : List (Z p)) : zr p (x.map (·.v.toNat)) = x := by
  unfold zr
  rw [List.map_map]
  conv => rhs; rw [← List.map_id x]
  exact List.map_congr_left fun a _ => c_toN a
theorem ptOf_mem {x : List (Z p)} (hx : x.length = 3) (nx : leadZ x ≠ 0) : ptOf x ∈ Rb.points p := form_mem (by rw [List.length_map, hx]) (by rw [zr_toN]; exact nx)
theorem ptOf_zr (x : List (Z p)) : zr p (ptOf x) = formZ x := by
  unfold ptOf
  rw [zr_form, zr_toN]
theorem ptOf_row (x : List (Z p)) : rowT (ptOf x) = lift (formZ x) := by
  unfold ptOf
  rw [form_v, zr_toN]
theorem St_scale {m x : List (Z p)} {k : Z p} (hm : m.length = 9) (hx : x.length = 3) (hk : k ≠ 0) : St m (x.map (k * ·)) ↔ St m x := by
  obtain ⟨a, b, d, e, f, g, h, i, j, rfl⟩ := len9 hm
  obtain ⟨x, y, z, rfl⟩ := len3 hx
  unfold St
  simp only [List.map_cons, List.map_nil, app9, join3, List.cons.injEq, and_true]
  have e0 : ∀ q r s : Z p, (q * (k * x) + r * (k * y) + s * (k * z)) = k * (q * x + r * y + s * z) := fun q r s => by grind
  rw [e0, e0, e0]
  generalize a * x + b * y + d * z = A
  generalize e * x + f * y + g * z = B
  generalize h * x + i * y + j * z = C
  have kk : k * k ≠ 0 := mul_ne hk hk
  have e1 : ∀ q r s t : Z p, k * q * (k * r) - k * s * (k * t) = 0 ↔ q * r - s * t = 0 := fun q r s t => by
    constructor <;> intro w
    · have : k * k * (q * r - s * t) = 0 := by grind
      grind
    · have : k * q * (k * r) - k * s * (k * t) = k * k * (q * r - s * t) := by grind
      rw [this, w]
      grind
  rw [e1, e1, e1]
theorem stays_eq {m x : List Nat} (hm : m.length = 9) (h : detZ (zr p m) ≠ 0) (hx : x ∈ Rb.points p) : Rb.stays p m x = true ↔ St (zr p m) (zr p x) := by
  unfold Rb.stays St
  rw [same_iff, zr_apply, sim_join (applyZ_len _ _) (by rw [zr_len, pt_len hx]) (app_ne (by rw [zr_len, hm]) (by rw [zr_len, pt_len hx]) h (pt_ne hx)) (pt_ne hx)]
theorem line_iff {m k : List Nat} (hm : m.length = 9) (h : detZ (zr p m) ≠ 0) (hk : k ∈ Rb.points p) :
    (((Rb.points p).filter fun x => Rb.stays p m x).filter fun x => Rb.on p x k).length = p + 1 ↔ ∀ x : List (Z p), x.length = 3 → leadZ x ≠ 0 → dotZ x (zr p k) = 0 → St (zr p m) x := by
  have hk3 : (zr p k).length = 3 := by rw [zr_len, pt_len hk]
  have e1 : ((Rb.points p).filter fun x => Rb.stays p m x).filter (fun x => Rb.on p x k) = ((Rb.points p).filter fun x => decide (dotZ (zr p x) (zr p k) = 0)).filter fun x => Rb.stays p m x := by
    rw [List.filter_filter, List.filter_filter]
    refine List.filter_congr fun x _ => ?_
    rw [on_eq, Bool.and_comm]
  rw [e1, ← line_count hk3 (pt_ne hk), List.length_filter_eq_length_iff]
  constructor
  · intro all x hx nx hd
    obtain ⟨s, hs, es⟩ := formZ_k nx
    have hp := ptOf_mem hx nx
    have hd2 : dotZ (zr p (ptOf x)) (zr p k) = 0 := by
      rw [ptOf_zr, es]
      obtain ⟨x0, x1, x2, rfl⟩ := len3 hx
      obtain ⟨k0, k1, k2, ek⟩ := len3 hk3
      rw [ek] at hd ⊢
      simp only [List.map_cons, List.map_nil, dot3] at hd ⊢
      have : s * x0 * k0 + s * x1 * k1 + s * x2 * k2 = s * (x0 * k0 + x1 * k1 + x2 * k2) := by grind
      rw [this, hd]
      grind
    have := all (ptOf x) (List.mem_filter.mpr ⟨hp, decide_eq_true hd2⟩)
    rw [stays_eq hm h hp, ptOf_zr, es, St_scale (by rw [zr_len, hm]) hx hs] at this
    exact this
  · intro all x hx
    obtain ⟨h1, h2⟩ := List.mem_filter.mp hx
    rw [stays_eq hm h h1]
    exact all _ (by rw [zr_len, pt_len h1]) (pt_ne h1) (of_decide_eq_true h2)
theorem all_iff {m : List Nat} (hm : m.length = 9) (h : detZ (zr p m) ≠ 0) : ((Rb.points p).filter fun x => Rb.stays p m x).length = (Rb.points p).length ↔ formZ (zr p m) = idZ := by
  have hm9 : (zr p m).length = 9 := by rw [zr_len, hm]
  rw [List.length_filter_eq_length_iff]
  constructor
  · intro all
    refine all_stay hm9 h fun x hx nx => ?_
    obtain ⟨s, hs, es⟩ := formZ_k nx
    have hp := ptOf_mem hx nx
    have := all (ptOf x) hp
    rw [stays_eq hm h hp, ptOf_zr, es, St_scale hm9 hx hs] at this
    exact this
  · intro e x hx
    rw [stays_eq hm h hx]
    obtain ⟨k, hk, er⟩ := of_scalar hm9 e
    have hx3 : (zr p x).length = 3 := by rw [zr_len, pt_len hx]
    refine st_of (k := k) hx3 ?_
    obtain ⟨a, b, d, e', f, g, h', i, j, em⟩ := len9 hm9
    obtain ⟨x0, x1, x2, ex⟩ := len3 hx3
    rw [em, rest9] at er
    simp only [List.cons.injEq, and_true] at er
    obtain ⟨r0, r1, r2, r3, r4, r5, r6, r7, r8⟩ := er
    rw [em, ex, app9]
    simp only [List.map_cons, List.map_nil, List.cons.injEq, and_true]
    refine ⟨by grind, by grind, by grind⟩
theorem find_line {m : List Nat} {u : List (Z p)} {k : Z p} (hm : m.length = 9) (h : detZ (zr p m) ≠ 0) (ns : formZ (zr p m) ≠ idZ) (hu : u.length = 3) (nu : leadZ u ≠ 0) (R : Rows (rest k (zr p m)) u) :
    (Rb.points p).find? (fun (j : List Nat) => (((Rb.points p).filter fun x => Rb.stays p m x).filter fun x => Rb.on p x j).length == p + 1) = some (ptOf u) := by
  have hm9 : (zr p m).length = 9 := by rw [zr_len, hm]
  refine find_one (ptOf_mem hu nu) fun j hj => ?_
  rw [beq_iff_eq, line_iff hm h hj]
  obtain ⟨s, hs, es⟩ := formZ_k nu
  constructor
  · intro all
    obtain ⟨l, _, R2⟩ := line_stays hm9 (by rw [zr_len, pt_len hj]) h (pt_ne hj) all
    refine pt_eq hj (ptOf_mem hu nu) ?_
    rw [ptOf_zr, formZ_form nu, sim_join (by rw [zr_len, pt_len hj]) hu (pt_ne hj) nu, ← join0]
    by_cases q : leadZ (joinZ (zr p j) u) = 0
    · exact q
    · exact (ns (two_lines hm9 h (by rw [zr_len, pt_len hj]) hu (pt_ne hj) nu q R2 R)).elim
  · rintro rfl x hx nx hd
    refine st_of (k := k) hx (rows_stay hm9 hu hx nu R ?_)
    rw [ptOf_zr, es] at hd
    obtain ⟨x0, x1, x2, rfl⟩ := len3 hx
    obtain ⟨u0, u1, u2, rfl⟩ := len3 hu
    simp only [List.map_cons, List.map_nil, dot3] at hd ⊢
    have : s * (x0 * u0 + x1 * u1 + x2 * u2) = 0 := by grind
    grind
theorem find_none {m : List Nat} (hm : m.length = 9) (h : detZ (zr p m) ≠ 0) (no : ∀ k : Z p, k ≠ 0 → ¬ (detZ (rest k (zr p m)) = 0 ∧ leadZ (adjZ (rest k (zr p m))) = 0)) :
    (Rb.points p).find? (fun (j : List Nat) => (((Rb.points p).filter fun x => Rb.stays p m x).filter fun x => Rb.on p x j).length == p + 1) = none := by
  have hm9 : (zr p m).length = 9 := by rw [zr_len, hm]
  rw [List.find?_eq_none]
  intro j hj q
  rw [beq_iff_eq, line_iff hm h hj] at q
  obtain ⟨l, hl, R⟩ := line_stays hm9 (by rw [zr_len, pt_len hj]) h (pt_ne hj) q
  exact no l hl (adj_of_rows rfl (by rw [zr_len, pt_len hj]) (pt_ne hj) R)
end
end Pb
end
section
set_option Elab.async false
set_option linter.all false
set_option maxRecDepth 100000
set_option maxHeartbeats 1000000
namespace Pb
open L2 Dn Z
open PySem.W (WData)
open WrraybNeutral (nats told rowT)
section
variable {p : Nat} [P : Pr p]
theorem d_rest_eq {m : List Int} (hm : m.length = 9) {k : Nat} (hk : k < p) : d_mixed [.int p, .int 1, iL m, .int (-(k : Int)), gd_IDENTITY] = some (iL (lift (rest (c p (k : Int)) (zi p m)))) := by
  have hl := p_le (p := p)
  have e := d_mixed_eq (p := p) (s := 1) (t := -(k : Int)) (x := m) (y := [1, 0, 0, 0, 1, 0, 0, 0, 1]) (Y := gd_IDENTITY) (fun i => hIx_t _ i) (by rw [hm]; rfl) (by omega) (by omega) (by omega) (by omega) (by omega)
  rw [e]
  congr 3
  obtain ⟨a, b, d, e', f, g, h, i, j, em⟩ := len9 (l := zi p m) (by rw [zi_len, hm])
  rw [em, rest9]
  have e0 : c p (0 : Int) = 0 := rfl
  have e1 : c p (1 : Int) = 1 := rfl
  simp only [zi_cons, zi_nil, e0, e1, c_neg, mixZ, List.zipWith_cons_cons, List.zipWith_nil_left, List.cons.injEq, and_true]
  refine ⟨by grind, by grind, by grind, by grind, by grind, by grind, by grind, by grind, by grind⟩
noncomputable def bLine : DS := sSeq (sSet 3 (dCall d_mixed (dCons (dVar 0) (dCons (dC (.int 1)) (dCons (dVar 1) (dCons (dNeg (dVar 2)) (dCons (dC gd_IDENTITY) dNil)))))))
  (sIf (dTest (dOp hEq (dCall d_rank_of (dCons (dVar 0) (dCons (dVar 3) dNil))) (dC (.int 1))))
  (sRet (dOp hIx (dL (dLc 4 [4] (dCall d_rows_of (dCons (dVar 3) dNil)) (dTest (dOp hNe (dCall d_first_not_zero (dCons (dVar 0) (dCons (dVar 4) dNil))) (dC (.int 0)))) (dCall d_form_of (dCons (dVar 0) (dCons (dVar 4) dNil))))) (dC (.int 0))))
  sNil)
theorem rest_len (k : Z p) (m : List (Z p)) : (rest k m).length = 9 := rfl
def R1 (k : Z p) (m : List (Z p)) : Prop := detZ (rest k m) = 0 ∧ leadZ (adjZ (rest k m)) = 0
theorem rank_one {k : Z p} {m : List (Z p)} : decide ((if detZ (rest k m) = 0 then if leadZ (adjZ (rest k m)) = 0 then (1 : Int) else 2 else 3) = 1) = true ↔ R1 k m := by
  unfold R1
  by_cases h1 : detZ (rest k m) = 0
  · by_cases h2 : leadZ (adjZ (rest k m)) = 0
    · simp [h1, h2]
    · simp [h1, h2]
  · simp [h1]
theorem line_step {m : List Int} (hm : m.length = 9) {k : Nat} (hk : k < p) (w3 : Option Sl) :
    (¬ R1 (c p (k : Int)) (zi p m) → bLine [some (.val (.int p)), some (.val (iL m)), some (.val (.int (k : Int))), w3, none] = some (.nx [some (.val (.int p)), some (.val (iL m)), some (.val (.int (k : Int))), some (.val (iL (lift (rest (c p (k : Int)) (zi p m))))), none])) ∧
    (R1 (c p (k : Int)) (zi p m) → rest (c p (k : Int)) (zi p m) ≠ [0, 0, 0, 0, 0, 0, 0, 0, 0] → ∃ u : List (Z p), u.length = 3 ∧ leadZ u ≠ 0 ∧ Rows (rest (c p (k : Int)) (zi p m)) u ∧ bLine [some (.val (.int p)), some (.val (iL m)), some (.val (.int (k : Int))), w3, none] = some (.rt (iL (lift (formZ u))))) := by
  have e1 := d_rest_eq (p := p) hm hk
  have e2 := d_rank_of_eq (p := p) (m := lift (rest (c p (k : Int)) (zi p m))) (by rw [lift_len, rest_len]) (bd_lift _)
  rw [zi_lift] at e2
  constructor
  · intro h
    have h' := fun q => h (rank_one.mp q)
    simp only [bLine, body, initR, sNil, sBreak, sCont, sSeq, sRet, sRetN, sIf, sSet, sOwn, sPut, sAug, sFor, sForT, sForR_eq, dVar, dC, dOp, hAdd_ii, hSub_ii, hMul_ii, hMod_ii, hDiv_ii, hLt_ii, hLe_ii, hGt_ii, hGe_ii, hEq_ii, hNe_ii, dNeg, hInT, hInL, hIx_iL, hIx_rL, fLen_iL, fLen_rL, cat_iL, cat_rL, cut_iL, hEqL_iL, rfold1, rfold2, rfold3, rfold4, rfold5, rfold8, foldc, foldcc, fold0, fold1, fold2, fold3, fold6, fold9, foldL, foldR, lcL_iL, lcL_rL, dIxO, dTest, dAnd, dOr, dNot, dAndV, dOrV, dNotV, dIf, dNil, dCons, dL, dTup, dCall, dLc_eq, dYes, dCat_eq, freeze, wipeR, atc_0, atc_1, atc_2, atc_3, atc_4, atc_5, atc_6, atc_7, atc_8, List.map_cons, List.map_nil, List.length_cons, List.length_nil, List.replicate, List.cons_append, List.nil_append, List.append_nil, List.getElem?_cons_zero, List.getElem?_cons_succ, List.getElem?_nil, List.set_cons_zero, List.set_cons_succ, List.set_nil, Option.bind_some, Option.map_some, Option.bind_none, Option.map_none, if_true, if_false, Bool.false_eq_true, Nat.reduceAdd, Nat.reduceSub, List.length_map, intsOf_ints, Bool.not_true, Bool.not_false, decide_true, decide_false, Function.comp, dMeth, dNew, dCut, dRep, dLcR_eq, fListOf_t, e1, e2]
    rw [if_neg h']
  · intro h hne
    have h' := rank_one.mpr h
    have el := rest_len (c p (k : Int)) (zi p m)
    have ad := fun (i : Nat) (hi : i < 3) => rows_of_adj el h.2 hi
    generalize rest (c p (k : Int)) (zi p m) = R at *
    obtain ⟨r0, r1, r2, r3, r4, r5, r6, r7, r8, rfl⟩ := len9 el
    have e3 : d_rows_of [iL (lift [r0, r1, r2, r3, r4, r5, r6, r7, r8])] = some (rL [lift [r0, r1, r2], lift [r3, r4, r5], lift [r6, r7, r8]]) := d_rows_of_eq _ _ _ _ _ _ _ _ _
    have e4 : ∀ w3 : Option Sl, lcGo 4 [some (.val (.int p)), some (.val (iL m)), some (.val (.int (k : Int))), w3, none] (dTest (dOp hNe (dCall d_first_not_zero (dCons (dVar 0) (dCons (dVar 4) dNil))) (dC (.int 0)))) (dCall d_form_of (dCons (dVar 0) (dCons (dVar 4) dNil))) ([[r0, r1, r2], [r3, r4, r5], [r6, r7, r8]].map fun l => iL (lift l)) = some (([[r0, r1, r2], [r3, r4, r5], [r6, r7, r8]].filter fun l => !decide (leadZ l = 0)).map fun l => iL (lift (formZ l))) := fun w3 => by
      have l3 : ∀ l ∈ [[r0, r1, r2], [r3, r4, r5], [r6, r7, r8]], l.length = 3 := fun l hl => by
        simp only [List.mem_cons, List.not_mem_nil, or_false] at hl
        rcases hl with rfl | rfl | rfl <;> rfl
      refine lcGo_filter _ _ _ (fun l _ => ?_) (fun l hl _ => ?_)
      · have f := d_first_not_zero_eq (p := p) (lift l)
        rw [zi_lift] at f
        simp only [body, initR, sNil, sBreak, sCont, sSeq, sRet, sRetN, sIf, sSet, sOwn, sPut, sAug, sFor, sForT, sForR_eq, dVar, dC, dOp, hAdd_ii, hSub_ii, hMul_ii, hMod_ii, hDiv_ii, hLt_ii, hLe_ii, hGt_ii, hGe_ii, hEq_ii, hNe_ii, dNeg, hInT, hInL, hIx_iL, hIx_rL, fLen_iL, fLen_rL, cat_iL, cat_rL, cut_iL, hEqL_iL, rfold1, rfold2, rfold3, rfold4, rfold5, rfold8, foldc, foldcc, fold0, fold1, fold2, fold3, fold6, fold9, foldL, foldR, lcL_iL, lcL_rL, dIxO, dTest, dAnd, dOr, dNot, dAndV, dOrV, dNotV, dIf, dNil, dCons, dL, dTup, dCall, dLc_eq, dYes, dCat_eq, freeze, wipeR, atc_0, atc_1, atc_2, atc_3, atc_4, atc_5, atc_6, atc_7, atc_8, List.map_cons, List.map_nil, List.length_cons, List.length_nil, List.replicate, List.cons_append, List.nil_append, List.append_nil, List.getElem?_cons_zero, List.getElem?_cons_succ, List.getElem?_nil, List.set_cons_zero, List.set_cons_succ, List.set_nil, Option.bind_some, Option.map_some, Option.bind_none, Option.map_none, if_true, if_false, Bool.false_eq_true, Nat.reduceAdd, Nat.reduceSub, List.length_map, intsOf_ints, Bool.not_true, Bool.not_false, decide_true, decide_false, Function.comp, dMeth, dNew, dCut, dRep, dLcR_eq, fListOf_t, f, dec_v]
      · have f := d_form_Z (p := p) l (by rw [l3 l hl]; omega)
        simp only [body, initR, sNil, sBreak, sCont, sSeq, sRet, sRetN, sIf, sSet, sOwn, sPut, sAug, sFor, sForT, sForR_eq, dVar, dC, dOp, hAdd_ii, hSub_ii, hMul_ii, hMod_ii, hDiv_ii, hLt_ii, hLe_ii, hGt_ii, hGe_ii, hEq_ii, hNe_ii, dNeg, hInT, hInL, hIx_iL, hIx_rL, fLen_iL, fLen_rL, cat_iL, cat_rL, cut_iL, hEqL_iL, rfold1, rfold2, rfold3, rfold4, rfold5, rfold8, foldc, foldcc, fold0, fold1, fold2, fold3, fold6, fold9, foldL, foldR, lcL_iL, lcL_rL, dIxO, dTest, dAnd, dOr, dNot, dAndV, dOrV, dNotV, dIf, dNil, dCons, dL, dTup, dCall, dLc_eq, dYes, dCat_eq, freeze, wipeR, atc_0, atc_1, atc_2, atc_3, atc_4, atc_5, atc_6, atc_7, atc_8, List.map_cons, List.map_nil, List.length_cons, List.length_nil, List.replicate, List.cons_append, List.nil_append, List.append_nil, List.getElem?_cons_zero, List.getElem?_cons_succ, List.getElem?_nil, List.set_cons_zero, List.set_cons_succ, List.set_nil, Option.bind_some, Option.map_some, Option.bind_none, Option.map_none, if_true, if_false, Bool.false_eq_true, Nat.reduceAdd, Nat.reduceSub, List.length_map, intsOf_ints, Bool.not_true, Bool.not_false, decide_true, decide_false, Function.comp, dMeth, dNew, dCut, dRep, dLcR_eq, fListOf_t, f]
    have ex : ∃ u ls, ([[r0, r1, r2], [r3, r4, r5], [r6, r7, r8]].filter fun l => !decide (leadZ l = 0)) = u :: ls := by
      cases ef : ([[r0, r1, r2], [r3, r4, r5], [r6, r7, r8]].filter fun l => !decide (leadZ l = 0)) with
      | cons u ls => exact ⟨u, ls, rfl⟩
      | nil =>
        have no := List.filter_eq_nil_iff.mp ef
        have z0 := no [r0, r1, r2] (by simp)
        have z1 := no [r3, r4, r5] (by simp)
        have z2 := no [r6, r7, r8] (by simp)
        simp only [Bool.not_eq_true', decide_eq_false_iff_not, Classical.not_not] at z0 z1 z2
        obtain ⟨a0, a1, a2⟩ := lead3.mp z0
        obtain ⟨a3, a4, a5⟩ := lead3.mp z1
        obtain ⟨a6, a7, a8⟩ := lead3.mp z2
        exact (hne (by rw [a0, a1, a2, a3, a4, a5, a6, a7, a8])).elim
    obtain ⟨u, ls, eu⟩ := ex
    have hu : u ∈ ([[r0, r1, r2], [r3, r4, r5], [r6, r7, r8]].filter fun l => !decide (leadZ l = 0)) := by
      rw [eu]
      exact List.mem_cons_self ..
    obtain ⟨hu1, hu2⟩ := List.mem_filter.mp hu
    have nu : leadZ u ≠ 0 := by simpa using hu2
    rw [eu] at e4
    simp only [List.mem_cons, List.not_mem_nil, or_false] at hu1
    have e5 : [lift [r0, r1, r2], lift [r3, r4, r5], lift [r6, r7, r8]].map iL = [[r0, r1, r2], [r3, r4, r5], [r6, r7, r8]].map fun l => iL (lift l) := rfl
    have fin : bLine [some (.val (.int p)), some (.val (iL m)), some (.val (.int (k : Int))), w3, none] = some (.rt (iL (lift (formZ u)))) := by
      have hlen : ([lift [r0, r1, r2], lift [r3, r4, r5], lift [r6, r7, r8]] : List (List Int)).length < 16777216 := by
        show 3 < 16777216
        omega
      have e6 := fun w3 => lcL_rL (i := 4) (ρ := [some (.val (.int p)), some (.val (iL m)), some (.val (.int (k : Int))), w3, none]) (c := dTest (dOp hNe (dCall d_first_not_zero (dCons (dVar 0) (dCons (dVar 4) dNil))) (dC (.int 0)))) (f := dCall d_form_of (dCons (dVar 0) (dCons (dVar 4) dNil))) hlen
      rw [e5] at e6
      simp only [e4] at e6
      unfold bLine
      simp only [sSeq, sSet, sIf, sRet, dTest, dOp, dL, dLc_eq, wipeR, dCall, dCons, dNil, dVar, dC, dNeg, List.getElem?_cons_zero, List.getElem?_cons_succ, List.set_cons_zero, List.set_cons_succ, Option.bind_some, Option.map_some, e1, e2, e3, e6, hEq_ii, List.map_cons]
      rw [if_pos h', hIx_l, atc_0]
      rfl
    refine ⟨u, ?_, nu, ?_, fin⟩
    · rcases hu1 with rfl | rfl | rfl <;> rfl
    · rcases hu1 with rfl | rfl | rfl
      · exact ad 0 (by omega)
      · exact ad 1 (by omega)
      · exact ad 2 (by omega)
theorem line_loop {m : List Int} (hm : m.length = 9) (nz : ∀ k : Z p, rest k (zi p m) ≠ [0, 0, 0, 0, 0, 0, 0, 0, 0]) : ∀ (n lo : Nat) (w2 w3 : Option Sl), 1 ≤ lo → lo + n ≤ p →
    (∃ (k : Z p) (u : List (Z p)), u.length = 3 ∧ leadZ u ≠ 0 ∧ Rows (rest k (zi p m)) u ∧ loop 2 bLine (rng (lo : Int) n) [some (.val (.int p)), some (.val (iL m)), w2, w3, none] = some (.rt (iL (lift (formZ u))))) ∨
    ((∀ j : Nat, lo ≤ j → j < lo + n → ¬ R1 (c p (j : Int)) (zi p m)) ∧ ∃ ρ, loop 2 bLine (rng (lo : Int) n) [some (.val (.int p)), some (.val (iL m)), w2, w3, none] = some (.nx ρ))
  | 0, lo, w2, w3, h1, h2 => .inr ⟨fun j hj1 hj2 => by omega, _, rfl⟩
  | n + 1, lo, w2, w3, h1, h2 => by
    have er : rng (lo : Int) (n + 1) = .int (lo : Int) :: rng ((lo + 1 : Nat) : Int) n := by
      unfold rng
      rw [List.range_succ_eq_map, List.map_cons, List.map_map]
      simp
      intro k _
      omega
    obtain ⟨s1, s2⟩ := line_step (p := p) hm (k := lo) (by omega) w3
    rw [er]
    by_cases q : R1 (c p (lo : Int)) (zi p m)
    · obtain ⟨u, hu, nu, R, e⟩ := s2 q (nz _)
      refine .inl ⟨_, u, hu, nu, R, ?_⟩
      unfold loop
      simp only [List.set_cons_zero, List.set_cons_succ, e]
    · have e := s1 q
      rcases line_loop hm nz n (lo + 1) (some (.val (.int (lo : Int)))) (some (.val (iL (lift (rest (c p (lo : Int)) (zi p m)))))) (by omega) (by omega) with ⟨k, u, hu, nu, R, e'⟩ | ⟨no, ρ, e'⟩
      · refine .inl ⟨k, u, hu, nu, R, ?_⟩
        unfold loop
        simp only [List.set_cons_zero, List.set_cons_succ, e]
        exact e'
      · refine .inr ⟨fun j hj1 hj2 => ?_, ρ, ?_⟩
        · by_cases z : j = lo
          · subst z
            exact q
          · exact no j (by omega) (by omega)
        · unfold loop
          simp only [List.set_cons_zero, List.set_cons_succ, e]
          exact e'
theorem d_line_eq {m : List Int} (hm : m.length = 9) (nz : ∀ k : Z p, rest k (zi p m) ≠ [0, 0, 0, 0, 0, 0, 0, 0, 0]) :
    (∃ (k : Z p) (u : List (Z p)), u.length = 3 ∧ leadZ u ≠ 0 ∧ Rows (rest k (zi p m)) u ∧ d_line_that_stays [.int p, iL m] = some (iL (lift (formZ u)))) ∨
    ((∀ k : Z p, k ≠ 0 → ¬ R1 k (zi p m)) ∧ d_line_that_stays [.int p, iL m] = some (iL [])) := by
  have h3 := p_ge (p := p)
  have hl := p_le (p := p)
  have t : ((p : Int) - 1).toNat = p - 1 := by omega
  have eb : sSeq (sSet 3 (dCall d_mixed (dCons (dVar 0) (dCons (dC (.int 1)) (dCons (dVar 1) (dCons (dNeg (dVar 2)) (dCons (dC gd_IDENTITY) dNil)))))))
    (sIf (dTest (dOp hEq (dCall d_rank_of (dCons (dVar 0) (dCons (dVar 3) dNil))) (dC (.int 1))))
    (sRet (dOp hIx (dL (dLc 4 [4] (dCall d_rows_of (dCons (dVar 3) dNil)) (dTest (dOp hNe (dCall d_first_not_zero (dCons (dVar 0) (dCons (dVar 4) dNil))) (dC (.int 0)))) (dCall d_form_of (dCons (dVar 0) (dCons (dVar 4) dNil))))) (dC (.int 0))))
    sNil) = bLine := rfl
  have er : ∀ w2 w3, loop 2 bLine (rng 1 (p - 1)) [some (.val (.int p)), some (.val (iL m)), w2, w3, none] = loop 2 bLine (rng ((1 : Nat) : Int) (p - 1)) [some (.val (.int p)), some (.val (iL m)), w2, w3, none] := fun _ _ => rfl
  rcases line_loop hm nz (p - 1) 1 none none (by omega) (by omega) with ⟨k, u, hu, nu, R, e⟩ | ⟨no, ρ, e⟩
  · refine .inl ⟨k, u, hu, nu, R, ?_⟩
    unfold d_line_that_stays
    rw [eb]
    simp only [body, initR, sSeq, sForR_eq, dCons, dNil, dC, dVar, List.map_cons, List.map_nil, List.cons_append, List.nil_append, List.length_cons, List.length_nil, Nat.reduceAdd, Nat.reduceSub, List.replicate, List.getElem?_cons_zero, List.getElem?_cons_succ, Option.bind_some, rgs_2 (l := 1) (j := (p : Int)) (by omega) (by omega) (by omega) (by omega), t, er, e]
  · refine .inr ⟨fun k hk q => ?_, ?_⟩
    · have hv := v_nonneg k
      have hz : k.v.toNat ≠ 0 := fun z => hk (v_ne.mp (by omega))
      have := no k.v.toNat (by omega) (by have := toNat_lt k; omega)
      rw [c_toN] at this
      exact this q
    · unfold d_line_that_stays
      rw [eb]
      simp only [body, initR, sSeq, sForR_eq, sRet, dL, dCons, dNil, dC, dVar, List.map_cons, List.map_nil, List.cons_append, List.nil_append, List.length_cons, List.length_nil, Nat.reduceAdd, Nat.reduceSub, List.replicate, List.getElem?_cons_zero, List.getElem?_cons_succ, Option.bind_some, Option.map_some, rgs_2 (l := 1) (j := (p : Int)) (by omega) (by omega) (by omega) (by omega), t, er, e, fold0]
end
theorem flat_len {ls : List (List Nat)} (h3 : ∀ v ∈ ls, v.length = 3) (hl : ls.length ≤ 1000) : (ls.flatMap rowT).length ≤ 3000 := by
  rw [← count_flat h3, List.length_map, List.length_range]; omega
theorem told_all : told (.fixed .all) = [0, 2, 0] := rfl
theorem told_none (l : List (List Nat)) : told (.fixed (.some_ l none)) = 0 :: 0 :: (l.length : Int) :: l.flatMap rowT := rfl
theorem told_some (l : List (List Nat)) (k : List Nat) : told (.fixed (.some_ l (some k))) = 0 :: 1 :: (rowT k ++ (l.length : Int) :: l.flatMap rowT) := rfl
theorem fixed_law (p : Int) (m : List Int) (hm : Row9 m) : d_fixed [.int p, iL m] = some (iL (PyWrrayb.fixed p m)) := by
  rw [sp_fixed]
  by_cases h : p ∈ oddPrimes
  · obtain ⟨p, rfl, P⟩ := oddPrimes_pr h
    have e2 := d_is_map_M (p := p) hm
    simp only [Int.toNat_natCast, primeOk_nat, isMap_zi hm, Bool.true_and]
    cases hb : isM p m with
    | false => simp only [d_fixed, body, initR, sNil, sBreak, sCont, sSeq, sRet, sRetN, sIf, sSet, sOwn, sPut, sAug, sFor, sForT, sForR_eq, dVar, dC, dOp, hAdd_ii, hSub_ii, hMul_ii, hMod_ii, hDiv_ii, hLt_ii, hLe_ii, hGt_ii, hGe_ii, hEq_ii, hNe_ii, dNeg, hInT, hInL, hIx_iL, hIx_rL, fLen_iL, fLen_rL, cat_iL, cat_rL, cut_iL, hEqL_iL, rfold1, rfold2, rfold3, rfold4, rfold5, rfold8, foldc, foldcc, fold0, fold1, fold2, fold3, fold6, fold9, foldL, foldR, lcL_iL, lcL_rL, dIxO, dTest, dAnd, dOr, dNot, dAndV, dOrV, dNotV, dIf, dNil, dCons, dL, dTup, dCall, dLc_eq, dYes, dCat_eq, freeze, wipeR, atc_0, atc_1, atc_2, atc_3, atc_4, atc_5, atc_6, atc_7, atc_8, List.map_cons, List.map_nil, List.length_cons, List.length_nil, List.replicate, List.cons_append, List.nil_append, List.append_nil, List.getElem?_cons_zero, List.getElem?_cons_succ, List.getElem?_nil, List.set_cons_zero, List.set_cons_succ, List.set_nil, Option.bind_some, Option.map_some, Option.bind_none, Option.map_none, if_true, if_false, Bool.false_eq_true, Nat.reduceAdd, Nat.reduceSub, List.length_map, intsOf_ints, Bool.not_true, Bool.not_false, decide_true, decide_false, Function.comp, dMeth, dNew, dCut, dRep, dLcR_eq, fListOf_t, hIn_p, dec_odd, e2, hb, Bool.false_and, gate_false]
    | true =>
      have e3 := d_leaves_all_eq (p := p) (isM_len hb)
      have hm9 : (nats m).length = 9 := by rw [nats_len, isM_len hb]
      have hz9 : (zi p m).length = 9 := by rw [zi_len, isM_len hb]
      have ez : zr p (nats m) = zi p m := zr_nats hm.low
      have hdet : detZ (zr p (nats m)) ≠ 0 := by rw [ez]; exact isM_ne hb
      have ai := all_iff hm9 hdet
      rw [ez] at ai
      unfold Rb.fixed
      by_cases hs : formZ (zi p m) = idZ
      · rw [if_pos (ai.mpr hs)]
        simp only [d_fixed, body, initR, sNil, sBreak, sCont, sSeq, sRet, sRetN, sIf, sSet, sOwn, sPut, sAug, sFor, sForT, sForR_eq, dVar, dC, dOp, hAdd_ii, hSub_ii, hMul_ii, hMod_ii, hDiv_ii, hLt_ii, hLe_ii, hGt_ii, hGe_ii, hEq_ii, hNe_ii, dNeg, hInT, hInL, hIx_iL, hIx_rL, fLen_iL, fLen_rL, cat_iL, cat_rL, cut_iL, hEqL_iL, rfold1, rfold2, rfold3, rfold4, rfold5, rfold8, foldc, foldcc, fold0, fold1, fold2, fold3, fold6, fold9, foldL, foldR, lcL_iL, lcL_rL, dIxO, dTest, dAnd, dOr, dNot, dAndV, dOrV, dNotV, dIf, dNil, dCons, dL, dTup, dCall, dLc_eq, dYes, dCat_eq, freeze, wipeR, atc_0, atc_1, atc_2, atc_3, atc_4, atc_5, atc_6, atc_7, atc_8, List.map_cons, List.map_nil, List.length_cons, List.length_nil, List.replicate, List.cons_append, List.nil_append, List.append_nil, List.getElem?_cons_zero, List.getElem?_cons_succ, List.getElem?_nil, List.set_cons_zero, List.set_cons_succ, List.set_nil, Option.bind_some, Option.map_some, Option.bind_none, Option.map_none, if_true, if_false, Bool.false_eq_true, Nat.reduceAdd, Nat.reduceSub, List.length_map, intsOf_ints, Bool.not_true, Bool.not_false, decide_true, decide_false, Function.comp, dMeth, dNew, dCut, dRep, dLcR_eq, fListOf_t, hIn_p, dec_odd, e2, hb, e3, hs, gate_true, told_all]
      · rw [if_neg (fun q => hs (ai.mp q))]
        have e4 : lcGo 4 [some (.val (.int p)), some (.val (iL m)), none, none, none] (dTest (dCall d_are_same (dCons (dVar 0) (dCons (dCall d_applied (dCons (dVar 0) (dCons (dVar 1) (dCons (dVar 4) dNil)))) (dCons (dVar 4) dNil))))) (dVar 4) ((Rb.points p).map fun v => iL (rowT v)) = some (((Rb.points p).filter fun x => Rb.stays p (nats m) x).map fun v => iL (rowT v)) := by
          refine lcGo_filter _ _ _ (fun v hv => ?_) (fun v hv _ => ?_)
          · have f1 := d_applied_eq (p := p) (m := m) (x := rowT v) (isM_len hb) (by rw [rowT_len, pt_len hv]) hm.bd
            have f2 := d_are_same_eq (p := p) (x := lift (applyZ (zi p m) (zi p (rowT v)))) (y := rowT v) (by rw [lift_len, applyZ_len]) (by rw [rowT_len, pt_len hv]) (bd_lift _)
            rw [zi_lift, zi_row] at f2
            rw [zi_row] at f1
            have f3 : decide (leadZ (joinZ (applyZ (zi p m) (zr p v)) (zr p v)) = 0) = Rb.stays p (nats m) v := by
              have := stays_eq hm9 hdet hv
              rw [ez] at this
              cases es : Rb.stays p (nats m) v with
              | true => exact decide_eq_true (join0.mpr (this.mp es))
              | false =>
                refine decide_eq_false fun q => ?_
                rw [this.mpr (join0.mp q)] at es
                cases es
            rw [f3] at f2
            simp only [body, initR, sNil, sBreak, sCont, sSeq, sRet, sRetN, sIf, sSet, sOwn, sPut, sAug, sFor, sForT, sForR_eq, dVar, dC, dOp, hAdd_ii, hSub_ii, hMul_ii, hMod_ii, hDiv_ii, hLt_ii, hLe_ii, hGt_ii, hGe_ii, hEq_ii, hNe_ii, dNeg, hInT, hInL, hIx_iL, hIx_rL, fLen_iL, fLen_rL, cat_iL, cat_rL, cut_iL, hEqL_iL, rfold1, rfold2, rfold3, rfold4, rfold5, rfold8, foldc, foldcc, fold0, fold1, fold2, fold3, fold6, fold9, foldL, foldR, lcL_iL, lcL_rL, dIxO, dTest, dAnd, dOr, dNot, dAndV, dOrV, dNotV, dIf, dNil, dCons, dL, dTup, dCall, dLc_eq, dYes, dCat_eq, freeze, wipeR, atc_0, atc_1, atc_2, atc_3, atc_4, atc_5, atc_6, atc_7, atc_8, List.map_cons, List.map_nil, List.length_cons, List.length_nil, List.replicate, List.cons_append, List.nil_append, List.append_nil, List.getElem?_cons_zero, List.getElem?_cons_succ, List.getElem?_nil, List.set_cons_zero, List.set_cons_succ, List.set_nil, Option.bind_some, Option.map_some, Option.bind_none, Option.map_none, if_true, if_false, Bool.false_eq_true, Nat.reduceAdd, Nat.reduceSub, List.length_map, intsOf_ints, Bool.not_true, Bool.not_false, decide_true, decide_false, Function.comp, dMeth, dNew, dCut, dRep, dLcR_eq, fListOf_t, f1, f2]
          · simp only [body, initR, sNil, sBreak, sCont, sSeq, sRet, sRetN, sIf, sSet, sOwn, sPut, sAug, sFor, sForT, sForR_eq, dVar, dC, dOp, hAdd_ii, hSub_ii, hMul_ii, hMod_ii, hDiv_ii, hLt_ii, hLe_ii, hGt_ii, hGe_ii, hEq_ii, hNe_ii, dNeg, hInT, hInL, hIx_iL, hIx_rL, fLen_iL, fLen_rL, cat_iL, cat_rL, cut_iL, hEqL_iL, rfold1, rfold2, rfold3, rfold4, rfold5, rfold8, foldc, foldcc, fold0, fold1, fold2, fold3, fold6, fold9, foldL, foldR, lcL_iL, lcL_rL, dIxO, dTest, dAnd, dOr, dNot, dAndV, dOrV, dNotV, dIf, dNil, dCons, dL, dTup, dCall, dLc_eq, dYes, dCat_eq, freeze, wipeR, atc_0, atc_1, atc_2, atc_3, atc_4, atc_5, atc_6, atc_7, atc_8, List.map_cons, List.map_nil, List.length_cons, List.length_nil, List.replicate, List.cons_append, List.nil_append, List.append_nil, List.getElem?_cons_zero, List.getElem?_cons_succ, List.getElem?_nil, List.set_cons_zero, List.set_cons_succ, List.set_nil, Option.bind_some, Option.map_some, Option.bind_none, Option.map_none, if_true, if_false, Bool.false_eq_true, Nat.reduceAdd, Nat.reduceSub, List.length_map, intsOf_ints, Bool.not_true, Bool.not_false, decide_true, decide_false, Function.comp, dMeth, dNew, dCut, dRep, dLcR_eq, fListOf_t]
        have hpl := points_lt (p := p)
        have hl : ((Rb.points p).filter fun x => Rb.stays p (nats m) x).length ≤ 1000 := filt_le _ points_lt
        have nz : ∀ k : Z p, rest k (zi p m) ≠ [0, 0, 0, 0, 0, 0, 0, 0, 0] := fun k q => hs (scalar_of hz9 (isM_ne hb) q)
        rcases d_line_eq (p := p) (isM_len hb) nz with ⟨k, u, hu, nu, R, e5⟩ | ⟨no, e5⟩
        · have fl := find_line (k := k) hm9 hdet (by rw [ez]; exact hs) hu nu (by rw [ez]; exact R)
          rw [fl]
          rw [← ptOf_row] at e5
          have hmem := ptOf_mem hu nu
          have hne : ¬ rowT (ptOf u) = [] := fun q => by
            have := congrArg List.length q
            rw [rowT_len, pt_len hmem] at this
            cases this
          have e6 : lcGo 4 [some (.val (.int p)), some (.val (iL m)), some (.val (tL ((Rb.points p).filter fun x => Rb.stays p (nats m) x))), some (.val (iL (rowT (ptOf u)))), none] (dTest (dOp hNe (dCall d_dot (dCons (dVar 0) (dCons (dVar 4) (dCons (dVar 3) dNil)))) (dC (.int 0)))) (dVar 4) (((Rb.points p).filter fun x => Rb.stays p (nats m) x).map fun v => iL (rowT v)) = some ((((Rb.points p).filter fun x => Rb.stays p (nats m) x).filter fun x => !Rb.on p x (ptOf u)).map fun v => iL (rowT v)) := by
            refine lcGo_filter _ _ _ (fun v hv => ?_) (fun v hv _ => ?_)
            · have hv := pts_sub v hv
              have f := d_dot_eq (p := p) (x := rowT v) (y := rowT (ptOf u)) (by rw [rowT_len, pt_len hv]) (by rw [rowT_len, pt_len hmem]) (bd_row v hv)
              rw [zi_row, zi_row] at f
              simp only [body, initR, sNil, sBreak, sCont, sSeq, sRet, sRetN, sIf, sSet, sOwn, sPut, sAug, sFor, sForT, sForR_eq, dVar, dC, dOp, hAdd_ii, hSub_ii, hMul_ii, hMod_ii, hDiv_ii, hLt_ii, hLe_ii, hGt_ii, hGe_ii, hEq_ii, hNe_ii, dNeg, hInT, hInL, hIx_iL, hIx_rL, fLen_iL, fLen_rL, cat_iL, cat_rL, cut_iL, hEqL_iL, rfold1, rfold2, rfold3, rfold4, rfold5, rfold8, foldc, foldcc, fold0, fold1, fold2, fold3, fold6, fold9, foldL, foldR, lcL_iL, lcL_rL, dIxO, dTest, dAnd, dOr, dNot, dAndV, dOrV, dNotV, dIf, dNil, dCons, dL, dTup, dCall, dLc_eq, dYes, dCat_eq, freeze, wipeR, atc_0, atc_1, atc_2, atc_3, atc_4, atc_5, atc_6, atc_7, atc_8, List.map_cons, List.map_nil, List.length_cons, List.length_nil, List.replicate, List.cons_append, List.nil_append, List.append_nil, List.getElem?_cons_zero, List.getElem?_cons_succ, List.getElem?_nil, List.set_cons_zero, List.set_cons_succ, List.set_nil, Option.bind_some, Option.map_some, Option.bind_none, Option.map_none, if_true, if_false, Bool.false_eq_true, Nat.reduceAdd, Nat.reduceSub, List.length_map, intsOf_ints, Bool.not_true, Bool.not_false, decide_true, decide_false, Function.comp, dMeth, dNew, dCut, dRep, dLcR_eq, fListOf_t, f, dec_v, on_eq]
            · simp only [body, initR, sNil, sBreak, sCont, sSeq, sRet, sRetN, sIf, sSet, sOwn, sPut, sAug, sFor, sForT, sForR_eq, dVar, dC, dOp, hAdd_ii, hSub_ii, hMul_ii, hMod_ii, hDiv_ii, hLt_ii, hLe_ii, hGt_ii, hGe_ii, hEq_ii, hNe_ii, dNeg, hInT, hInL, hIx_iL, hIx_rL, fLen_iL, fLen_rL, cat_iL, cat_rL, cut_iL, hEqL_iL, rfold1, rfold2, rfold3, rfold4, rfold5, rfold8, foldc, foldcc, fold0, fold1, fold2, fold3, fold6, fold9, foldL, foldR, lcL_iL, lcL_rL, dIxO, dTest, dAnd, dOr, dNot, dAndV, dOrV, dNotV, dIf, dNil, dCons, dL, dTup, dCall, dLc_eq, dYes, dCat_eq, freeze, wipeR, atc_0, atc_1, atc_2, atc_3, atc_4, atc_5, atc_6, atc_7, atc_8, List.map_cons, List.map_nil, List.length_cons, List.length_nil, List.replicate, List.cons_append, List.nil_append, List.append_nil, List.getElem?_cons_zero, List.getElem?_cons_succ, List.getElem?_nil, List.set_cons_zero, List.set_cons_succ, List.set_nil, Option.bind_some, Option.map_some, Option.bind_none, Option.map_none, if_true, if_false, Bool.false_eq_true, Nat.reduceAdd, Nat.reduceSub, List.length_map, intsOf_ints, Bool.not_true, Bool.not_false, decide_true, decide_false, Function.comp, dMeth, dNew, dCut, dRep, dLcR_eq, fListOf_t]
          have h3 : ∀ v ∈ ((Rb.points p).filter fun x => Rb.stays p (nats m) x).filter fun x => !Rb.on p x (ptOf u), v.length = 3 := fun v hv => pt_len (pts_sub v (List.mem_filter.mp hv).1)
          have h4 : (((Rb.points p).filter fun x => Rb.stays p (nats m) x).filter fun x => !Rb.on p x (ptOf u)).length ≤ 1000 := filt_le _ hl
          have e7 := d_counted_eq h3 h4
          have hz := flat_len h3 h4
          have hr : (rowT (ptOf u)).length = 3 := by rw [rowT_len, pt_len hmem]
          have hz1 : 0 + 1 + 1 + (rowT (ptOf u)).length ≤ 16777216 := by omega
          have hz2 : (rowT (ptOf u)).length + 1 + 1 + ((((Rb.points p).filter fun x => Rb.stays p (nats m) x).filter fun x => !Rb.on p x (ptOf u)).flatMap rowT).length + 1 ≤ 16777216 := by omega
          have hz3 : (rowT (ptOf u)).length + 1 + 1 + (((((Rb.points p).filter fun x => Rb.stays p (nats m) x).filter fun x => !Rb.on p x (ptOf u)).flatMap rowT).length + 1) ≤ 16777216 := by omega
          simp only [d_fixed, body, initR, sNil, sBreak, sCont, sSeq, sRet, sRetN, sIf, sSet, sOwn, sPut, sAug, sFor, sForT, sForR_eq, dVar, dC, dOp, hAdd_ii, hSub_ii, hMul_ii, hMod_ii, hDiv_ii, hLt_ii, hLe_ii, hGt_ii, hGe_ii, hEq_ii, hNe_ii, dNeg, hInT, hInL, hIx_iL, hIx_rL, fLen_iL, fLen_rL, cat_iL, cat_rL, cut_iL, hEqL_iL, rfold1, rfold2, rfold3, rfold4, rfold5, rfold8, foldc, foldcc, fold0, fold1, fold2, fold3, fold6, fold9, foldL, foldR, lcL_iL, lcL_rL, dIxO, dTest, dAnd, dOr, dNot, dAndV, dOrV, dNotV, dIf, dNil, dCons, dL, dTup, dCall, dLc_eq, dYes, dCat_eq, freeze, wipeR, atc_0, atc_1, atc_2, atc_3, atc_4, atc_5, atc_6, atc_7, atc_8, List.map_cons, List.map_nil, List.length_cons, List.length_nil, List.replicate, List.cons_append, List.nil_append, List.append_nil, List.getElem?_cons_zero, List.getElem?_cons_succ, List.getElem?_nil, List.set_cons_zero, List.set_cons_succ, List.set_nil, Option.bind_some, Option.map_some, Option.bind_none, Option.map_none, if_true, if_false, Bool.false_eq_true, Nat.reduceAdd, Nat.reduceSub, List.length_map, intsOf_ints, Bool.not_true, Bool.not_false, decide_true, decide_false, Function.comp, dMeth, dNew, dCut, dRep, dLcR_eq, fListOf_t, hIn_p, dec_odd, e2, hb, e3, hs, d_all_points_T, lcL_tL (show (Rb.points p).length < 16777216 by omega), e4, foldT, e5, hne, lcL_tL (show ((Rb.points p).filter fun x => Rb.stays p (nats m) x).length < 16777216 by omega), e6, e7, hz1, hz3, List.length_append, gate_true, told_some, List.cons_append, List.append_assoc]
        · have fn := find_none hm9 hdet (by rw [ez]; exact no)
          rw [fn]
          have h3 : ∀ v ∈ (Rb.points p).filter fun x => Rb.stays p (nats m) x, v.length = 3 := fun v hv => pt_len (pts_sub v hv)
          have e7 := d_counted_eq h3 hl
          have hz := flat_len h3 hl
          have hz3 : 0 + 1 + 1 + (((((Rb.points p).filter fun x => Rb.stays p (nats m) x)).flatMap rowT).length + 1) ≤ 16777216 := by omega
          simp only [d_fixed, body, initR, sNil, sBreak, sCont, sSeq, sRet, sRetN, sIf, sSet, sOwn, sPut, sAug, sFor, sForT, sForR_eq, dVar, dC, dOp, hAdd_ii, hSub_ii, hMul_ii, hMod_ii, hDiv_ii, hLt_ii, hLe_ii, hGt_ii, hGe_ii, hEq_ii, hNe_ii, dNeg, hInT, hInL, hIx_iL, hIx_rL, fLen_iL, fLen_rL, cat_iL, cat_rL, cut_iL, hEqL_iL, rfold1, rfold2, rfold3, rfold4, rfold5, rfold8, foldc, foldcc, fold0, fold1, fold2, fold3, fold6, fold9, foldL, foldR, lcL_iL, lcL_rL, dIxO, dTest, dAnd, dOr, dNot, dAndV, dOrV, dNotV, dIf, dNil, dCons, dL, dTup, dCall, dLc_eq, dYes, dCat_eq, freeze, wipeR, atc_0, atc_1, atc_2, atc_3, atc_4, atc_5, atc_6, atc_7, atc_8, List.map_cons, List.map_nil, List.length_cons, List.length_nil, List.replicate, List.cons_append, List.nil_append, List.append_nil, List.getElem?_cons_zero, List.getElem?_cons_succ, List.getElem?_nil, List.set_cons_zero, List.set_cons_succ, List.set_nil, Option.bind_some, Option.map_some, Option.bind_none, Option.map_none, if_true, if_false, Bool.false_eq_true, Nat.reduceAdd, Nat.reduceSub, List.length_map, intsOf_ints, Bool.not_true, Bool.not_false, decide_true, decide_false, Function.comp, dMeth, dNew, dCut, dRep, dLcR_eq, fListOf_t, hIn_p, dec_odd, e2, hb, e3, hs, d_all_points_T, lcL_tL (show (Rb.points p).length < 16777216 by omega), e4, foldT, e5, e7, hz3, gate_true, told_none, List.cons_append, List.nil_append]
          rfl
  · simp only [d_fixed, body, initR, sNil, sBreak, sCont, sSeq, sRet, sRetN, sIf, sSet, sOwn, sPut, sAug, sFor, sForT, sForR_eq, dVar, dC, dOp, hAdd_ii, hSub_ii, hMul_ii, hMod_ii, hDiv_ii, hLt_ii, hLe_ii, hGt_ii, hGe_ii, hEq_ii, hNe_ii, dNeg, hInT, hInL, hIx_iL, hIx_rL, fLen_iL, fLen_rL, cat_iL, cat_rL, cut_iL, hEqL_iL, rfold1, rfold2, rfold3, rfold4, rfold5, rfold8, foldc, foldcc, fold0, fold1, fold2, fold3, fold6, fold9, foldL, foldR, lcL_iL, lcL_rL, dIxO, dTest, dAnd, dOr, dNot, dAndV, dOrV, dNotV, dIf, dNil, dCons, dL, dTup, dCall, dLc_eq, dYes, dCat_eq, freeze, wipeR, atc_0, atc_1, atc_2, atc_3, atc_4, atc_5, atc_6, atc_7, atc_8, List.map_cons, List.map_nil, List.length_cons, List.length_nil, List.replicate, List.cons_append, List.nil_append, List.append_nil, List.getElem?_cons_zero, List.getElem?_cons_succ, List.getElem?_nil, List.set_cons_zero, List.set_cons_succ, List.set_nil, Option.bind_some, Option.map_some, Option.bind_none, Option.map_none, if_true, if_false, Bool.false_eq_true, Nat.reduceAdd, Nat.reduceSub, List.length_map, intsOf_ints, Bool.not_true, Bool.not_false, decide_true, decide_false, Function.comp, dMeth, dNew, dCut, dRep, dLcR_eq, fListOf_t, hIn_p, h, not_odd h, Bool.false_and, gate_false]
end Pb
end
section
set_option Elab.async false
set_option linter.all false
namespace Pb
open PySem.W
theorem in1 {α β : Type} {f : α → Bool} {g : β → Bool} {a : α × β} (h : Codec.inPair f g a = true) : f a.1 = true ∧ g a.2 = true := Bool.and_eq_true_iff.mp h
theorem row9_of {x : List Int} (h : Codec.inList 0 9 (Codec.inInt 0 4294967295) x = true) : Row9 x := by
  obtain ⟨h1, h2⟩ := Bool.and_eq_true_iff.mp h
  have h2 := List.all_eq_true.mp h2
  exact ⟨(Codec.inNat_iff.mp h1).2, fun a ha => (Codec.inInt_iff.mp (h2 a ha)).1, fun a ha => (Codec.inInt_iff.mp (h2 a ha)).2⟩
end Pb
end
section
set_option Elab.async false
set_option linter.all false
set_option maxRecDepth 100000
set_option maxHeartbeats 2000000
namespace Pb
open PySem PySem.Spec L2 Dn
open PySem.W (WData Codec)
def top (i : Nat) : Stmt := PySem.Challenge.pw_planebook_s14_fixed.main.body.getD i (.Pass ⟨0, 0, 0, 0⟩)
abbrev s_first_not_zero : Stmt := top 3
abbrev s_inverse : Stmt := top 4
abbrev s_form_of : Stmt := top 5
abbrev s_all_points : Stmt := top 6
abbrev s_dot : Stmt := top 7
abbrev s_mixed : Stmt := top 8
abbrev s_joined : Stmt := top 9
abbrev s_are_same : Stmt := top 10
abbrev s_determinant : Stmt := top 11
abbrev s_rows_of : Stmt := top 12
abbrev s_transposed : Stmt := top 13
abbrev s_undone : Stmt := top 14
abbrev s_applied : Stmt := top 15
abbrev s_is_map : Stmt := top 16
abbrev s_leaves_all : Stmt := top 17
abbrev s_rank_of : Stmt := top 18
abbrev s_line_that_stays : Stmt := top 19
abbrev s_counted : Stmt := top 20
abbrev s_fixed : Stmt := top 21
section
variable {P : Program} {w : World} {K : PySem.W.Frag} {mg : Str → Option Value} {base : Heap}
theorem sc_first_not_zero : FnScope ["p", "numbers", "n"] ["p", "numbers"] (defScope s_first_not_zero) := ⟨rfl, rfl, rfl, by decide +kernel, rfl, by decide +kernel, by decide +kernel⟩
theorem ok_first_not_zero {f : Addr} {fd : FuncData} (F : Fun K "first_not_zero" "first_not_zero" s_first_not_zero f fd) : FnOk P w K mg base CX0 1 f fd ["p", "numbers"] (spF K 2 d_first_not_zero) :=
  den_ok (k := 0) (N := ["p", "numbers", "n"]) F sc_first_not_zero fun cdv A outer s H E hr => ⟨_, (pss_cons (ps_for PassesOwn.never rfl (pi_list (pv 1)) (pg_name (i := 2) sc_first_not_zero.nd rfl (Or.inl rfl))
  (pss_one (ps_if (pt_cmpR op_ne (pe_op op_mod (pv 2) (pv 0)) pe_int (nomark _))
  (pss_one (ps_ret (pe_op op_mod (pv 2) (pv 0))))
  pss_nil)))
  (pss_one (ps_ret pe_int))),
  (rs_seq (rs_for (i := 2) (re_var 1)
  (rs_if (rt_test (re_op ro_ne (re_op ro_mod (re_var 2) (re_var 0)) (re_int 0)))
  (rs_ret (re_op ro_mod (re_var 2) (re_var 0)))
  rs_nil))
  (rs_ret (re_int 0)))⟩
theorem sc_inverse : FnScope ["p", "a", "result", "step"] ["p", "a"] (defScope s_inverse) := ⟨rfl, rfl, rfl, by decide +kernel, rfl, by decide +kernel, by decide +kernel⟩
theorem ok_inverse {f : Addr} {fd : FuncData} (F : Fun K "inverse" "inverse" s_inverse f fd) (z_range : mg "range" = none) : FnOk P w K mg base CX0 1 f fd ["p", "a"] (spF K 2 d_inverse) :=
  den_ok (k := 0) (N := ["p", "a", "result", "step"]) F sc_inverse fun cdv A outer s H E hr => ⟨_, (pss_cons (ps_set (i := 2) sc_inverse.nd rfl (Or.inl rfl) pe_int)
  (pss_cons (ps_for PassesOwn.never rfl (pi_range1 rfl z_range (pa_cons (pe_op op_sub (pv 0) pe_int) pa_nil)) (pg_name (i := 3) sc_inverse.nd rfl (Or.inl rfl))
  (pss_one (ps_set (i := 2) sc_inverse.nd rfl (Or.inl rfl) (pe_op op_mod (pe_op op_mul (pv 2) (pv 1)) (pv 0)))))
  (pss_one (ps_ret (pv 2))))),
  (rs_seq (rs_set (i := 2) (re_int 1))
  (rs_seq (rs_forR1 (i := 3) (ra_cons (re_op ro_sub (re_var 0) (re_int 2)) ra_nil)
  (rs_set (i := 2) (re_op ro_mod (re_op ro_mul (re_var 2) (re_var 1)) (re_var 0))))
  (rs_ret (re_var 2))))⟩
theorem sc_form_of : FnScope ["p", "numbers", "scale", "n"] ["p", "numbers"] (defScope s_form_of) := ⟨rfl, rfl, rfl, by decide +kernel, rfl, by decide +kernel, by decide +kernel⟩
theorem ok_form_of {f : Addr} {fd : FuncData} (F : Fun K "form_of" "form_of" s_form_of f fd) (c_first_not_zero : Cal P w K mg base 1 "first_not_zero" ["p", "numbers"] 2 d_first_not_zero) (c_inverse : Cal P w K mg base 1 "inverse" ["p", "a"] 2 d_inverse) : FnOk P w K mg base CX0 2 f fd ["p", "numbers"] (spF K 2 d_form_of) :=
  den_ok (k := 1) (N := ["p", "numbers", "scale", "n"]) F sc_form_of fun cdv A outer s H E hr => ⟨_, (pss_cons (ps_set (i := 2) sc_form_of.nd rfl (Or.inr rfl) (pe_cal c_inverse hr (by decide) (by rfl) (pa_cons (pv 0) (pa_cons (pe_cal c_first_not_zero hr (by decide) (by rfl) (pa_cons (pv 0) (pa_cons (pv 1) pa_nil))) pa_nil))))
  (pss_one (ps_ret (pe_lc rfl sc_form_of.nd (pi_list (pv 1)) (blkOk_by (N := ["p", "numbers", "scale", "n"]) (sc := defScope s_form_of) (own := [("n", 3)]) (by decide +kernel)) (fun _ _ _ _ _ => pg_name (i := 3) sc_form_of.nd rfl (Or.inl rfl)) (fun _ _ _ _ _ => pts_nil) (fun _ _ _ _ _ => (pe_op op_mod (pe_op op_mul (pv 2) (pv 3)) (pv 0))))))),
  (rs_seq (rs_set (i := 2) (re_call (ra_cons (re_var 0) (ra_cons (re_call (ra_cons (re_var 0) (ra_cons (re_var 1) ra_nil))) ra_nil))))
  (rs_ret (re_rf (rf_lc (i := 3) (re_var 1) rt_yes (re_op ro_mod (re_op ro_mul (re_var 2) (re_var 3)) (re_var 0))))))⟩
theorem sc_all_points : FnScope ["p", "i", "z"] ["p"] (defScope s_all_points) := ⟨rfl, rfl, rfl, by decide +kernel, rfl, by decide +kernel, by decide +kernel⟩
theorem ok_all_points {f : Addr} {fd : FuncData} (F : Fun K "all_points" "all_points" s_all_points f fd) (z_range : mg "range" = none) : FnOk P w K mg base CX0 1 f fd ["p"] (spF K 1 d_all_points) :=
  den_ok (k := 0) (N := ["p", "i", "z"]) F sc_all_points fun cdv A outer s H E hr => ⟨_, (pss_one (ps_ret (pe_op op_catL (pe_op op_catL (pe_lst (pa_cons (pe_lst (pa_cons pe_int (pa_cons pe_int (pa_cons pe_int pa_nil)))) pa_nil)) (pe_lc rfl sc_all_points.nd (pi_range1 rfl z_range (pa_cons (pv 0) pa_nil)) (blkOk_by (N := ["p", "i", "z"]) (sc := defScope s_all_points) (own := [("z", 2)]) (by decide +kernel)) (fun _ _ _ _ _ => pg_name (i := 2) sc_all_points.nd rfl (Or.inl rfl)) (fun _ _ _ _ _ => pts_nil) (fun _ _ _ _ _ => (pe_lst (pa_cons pe_int (pa_cons pe_int (pa_cons (pv 2) pa_nil))))))) (pe_lc rfl sc_all_points.nd (pi_range1 rfl z_range (pa_cons (pe_op op_mul (pv 0) (pv 0)) pa_nil)) (blkOk_by (N := ["p", "i", "z"]) (sc := defScope s_all_points) (own := [("i", 1)]) (by decide +kernel)) (fun _ _ _ _ _ => pg_name (i := 1) sc_all_points.nd rfl (Or.inl rfl)) (fun _ _ _ _ _ => pts_nil) (fun _ _ _ _ _ => (pe_lst (pa_cons pe_int (pa_cons (pe_op op_fdiv (pv 1) (pv 0)) (pa_cons (pe_op op_mod (pv 1) (pv 0)) pa_nil))))))))),
  (rs_ret (re_rf (rf_cat (re_rf (rf_cat (re_rf (rf_lst (ra_cons (re_rf (rf_lst (ra_cons (re_int 0) (ra_cons (re_int 0) (ra_cons (re_int 1) ra_nil))))) ra_nil))) (re_rf (rf_lcR1 (i := 2) (ra_cons (re_var 0) ra_nil) rt_yes (re_rf (rf_lst (ra_cons (re_int 0) (ra_cons (re_int 1) (ra_cons (re_var 2) ra_nil))))))))) (re_rf (rf_lcR1 (i := 1) (ra_cons (re_op ro_mul (re_var 0) (re_var 0)) ra_nil) rt_yes (re_rf (rf_lst (ra_cons (re_int 1) (ra_cons (re_op ro_div (re_var 1) (re_var 0)) (ra_cons (re_op ro_mod (re_var 1) (re_var 0)) ra_nil))))))))))⟩
theorem sc_dot : FnScope ["p", "x", "y"] ["p", "x", "y"] (defScope s_dot) := ⟨rfl, rfl, rfl, by decide +kernel, rfl, by decide +kernel, by decide +kernel⟩
theorem ok_dot {f : Addr} {fd : FuncData} (F : Fun K "dot" "dot" s_dot f fd) : FnOk P w K mg base CX0 1 f fd ["p", "x", "y"] (spF K 3 d_dot) :=
  den_ok (k := 0) (N := ["p", "x", "y"]) F sc_dot fun cdv A outer s H E hr => ⟨_, (pss_one (ps_ret (pe_op op_mod (pe_op op_add (pe_op op_add (pe_op op_mul (pe_ix ix_seq (pv 1) pe_int (fun _ _ => rfl)) (pe_ix ix_seq (pv 2) pe_int (fun _ _ => rfl))) (pe_op op_mul (pe_ix ix_seq (pv 1) pe_int (fun _ _ => rfl)) (pe_ix ix_seq (pv 2) pe_int (fun _ _ => rfl)))) (pe_op op_mul (pe_ix ix_seq (pv 1) pe_int (fun _ _ => rfl)) (pe_ix ix_seq (pv 2) pe_int (fun _ _ => rfl)))) (pv 0)))),
  (rs_ret (re_op ro_mod (re_op ro_add (re_op ro_add (re_op ro_mul (re_op ro_ix (re_var 1) (re_int 0)) (re_op ro_ix (re_var 2) (re_int 0))) (re_op ro_mul (re_op ro_ix (re_var 1) (re_int 1)) (re_op ro_ix (re_var 2) (re_int 1)))) (re_op ro_mul (re_op ro_ix (re_var 1) (re_int 2)) (re_op ro_ix (re_var 2) (re_int 2)))) (re_var 0)))⟩
theorem sc_mixed : FnScope ["p", "s", "x", "t", "y", "i"] ["p", "s", "x", "t", "y"] (defScope s_mixed) := ⟨rfl, rfl, rfl, by decide +kernel, rfl, by decide +kernel, by decide +kernel⟩
theorem ok_mixed {f : Addr} {fd : FuncData} (F : Fun K "mixed" "mixed" s_mixed f fd) (z_range : mg "range" = none) (z_len : mg "len" = none) : FnOk P w K mg base CX0 1 f fd ["p", "s", "x", "t", "y"] (spF K 5 d_mixed) :=
  den_ok (k := 0) (N := ["p", "s", "x", "t", "y", "i"]) F sc_mixed fun cdv A outer s H E hr => ⟨_, (pss_one (ps_ret (pe_lc rfl sc_mixed.nd (pi_range1 rfl z_range (pa_cons (pe_callB call_len_seq (by rfl) z_len PySem.boot_len (pa_cons (pv 2) pa_nil)) pa_nil)) (blkOk_by (N := ["p", "s", "x", "t", "y", "i"]) (sc := defScope s_mixed) (own := [("i", 5)]) (by decide +kernel)) (fun _ _ _ _ _ => pg_name (i := 5) sc_mixed.nd rfl (Or.inl rfl)) (fun _ _ _ _ _ => pts_nil) (fun _ _ _ _ _ => (pe_op op_mod (pe_op op_add (pe_op op_mul (pv 1) (pe_ix ix_seq (pv 2) (pv 5) (fun _ _ => rfl))) (pe_op op_mul (pv 3) (pe_ix ix_seq (pv 4) (pv 5) (fun _ _ => rfl)))) (pv 0)))))),
  (rs_ret (re_rf (rf_lcR1 (i := 5) (ra_cons (re_cb rc_len (ra_cons (re_var 2) ra_nil)) ra_nil) rt_yes (re_op ro_mod (re_op ro_add (re_op ro_mul (re_var 1) (re_op ro_ix (re_var 2) (re_var 5))) (re_op ro_mul (re_var 3) (re_op ro_ix (re_var 4) (re_var 5)))) (re_var 0)))))⟩
theorem sc_joined : FnScope ["p", "x", "y"] ["p", "x", "y"] (defScope s_joined) := ⟨rfl, rfl, rfl, by decide +kernel, rfl, by decide +kernel, by decide +kernel⟩
theorem ok_joined {f : Addr} {fd : FuncData} (F : Fun K "joined" "joined" s_joined f fd) : FnOk P w K mg base CX0 1 f fd ["p", "x", "y"] (spF K 3 d_joined) :=
  den_ok (k := 0) (N := ["p", "x", "y"]) F sc_joined fun cdv A outer s H E hr => ⟨_, (pss_one (ps_ret (pe_lst (pa_cons (pe_op op_mod (pe_op op_sub (pe_op op_mul (pe_ix ix_seq (pv 1) pe_int (fun _ _ => rfl)) (pe_ix ix_seq (pv 2) pe_int (fun _ _ => rfl))) (pe_op op_mul (pe_ix ix_seq (pv 1) pe_int (fun _ _ => rfl)) (pe_ix ix_seq (pv 2) pe_int (fun _ _ => rfl)))) (pv 0)) (pa_cons (pe_op op_mod (pe_op op_sub (pe_op op_mul (pe_ix ix_seq (pv 1) pe_int (fun _ _ => rfl)) (pe_ix ix_seq (pv 2) pe_int (fun _ _ => rfl))) (pe_op op_mul (pe_ix ix_seq (pv 1) pe_int (fun _ _ => rfl)) (pe_ix ix_seq (pv 2) pe_int (fun _ _ => rfl)))) (pv 0)) (pa_cons (pe_op op_mod (pe_op op_sub (pe_op op_mul (pe_ix ix_seq (pv 1) pe_int (fun _ _ => rfl)) (pe_ix ix_seq (pv 2) pe_int (fun _ _ => rfl))) (pe_op op_mul (pe_ix ix_seq (pv 1) pe_int (fun _ _ => rfl)) (pe_ix ix_seq (pv 2) pe_int (fun _ _ => rfl)))) (pv 0)) pa_nil)))))),
  (rs_ret (re_rf (rf_lst (ra_cons (re_op ro_mod (re_op ro_sub (re_op ro_mul (re_op ro_ix (re_var 1) (re_int 1)) (re_op ro_ix (re_var 2) (re_int 2))) (re_op ro_mul (re_op ro_ix (re_var 1) (re_int 2)) (re_op ro_ix (re_var 2) (re_int 1)))) (re_var 0)) (ra_cons (re_op ro_mod (re_op ro_sub (re_op ro_mul (re_op ro_ix (re_var 1) (re_int 2)) (re_op ro_ix (re_var 2) (re_int 0))) (re_op ro_mul (re_op ro_ix (re_var 1) (re_int 0)) (re_op ro_ix (re_var 2) (re_int 2)))) (re_var 0)) (ra_cons (re_op ro_mod (re_op ro_sub (re_op ro_mul (re_op ro_ix (re_var 1) (re_int 0)) (re_op ro_ix (re_var 2) (re_int 1))) (re_op ro_mul (re_op ro_ix (re_var 1) (re_int 1)) (re_op ro_ix (re_var 2) (re_int 0)))) (re_var 0)) ra_nil))))))⟩
theorem sc_are_same : FnScope ["p", "x", "y"] ["p", "x", "y"] (defScope s_are_same) := ⟨rfl, rfl, rfl, by decide +kernel, rfl, by decide +kernel, by decide +kernel⟩
theorem ok_are_same {f : Addr} {fd : FuncData} (F : Fun K "are_same" "are_same" s_are_same f fd) (c_joined : Cal P w K mg base 1 "joined" ["p", "x", "y"] 3 d_joined) (c_first_not_zero : Cal P w K mg base 1 "first_not_zero" ["p", "numbers"] 2 d_first_not_zero) : FnOk P w K mg base CX0 2 f fd ["p", "x", "y"] (spF K 3 d_are_same) :=
  den_ok (k := 1) (N := ["p", "x", "y"]) F sc_are_same fun cdv A outer s H E hr => ⟨_, (pss_one (ps_ret (pe_cmpR op_eq (pe_cal c_first_not_zero hr (by decide) (by rfl) (pa_cons (pv 0) (pa_cons (pe_cal c_joined hr (by decide) (by rfl) (pa_cons (pv 0) (pa_cons (pv 1) (pa_cons (pv 2) pa_nil)))) pa_nil))) pe_int (nomark _)))),
  (rs_ret (re_op ro_eq (re_call (ra_cons (re_var 0) (ra_cons (re_call (ra_cons (re_var 0) (ra_cons (re_var 1) (ra_cons (re_var 2) ra_nil)))) ra_nil))) (re_int 0)))⟩
theorem sc_determinant : FnScope ["p", "m"] ["p", "m"] (defScope s_determinant) := ⟨rfl, rfl, rfl, by decide +kernel, rfl, by decide +kernel, by decide +kernel⟩
theorem ok_determinant {f : Addr} {fd : FuncData} (F : Fun K "determinant" "determinant" s_determinant f fd) (c_joined : Cal P w K mg base 1 "joined" ["p", "x", "y"] 3 d_joined) (c_dot : Cal P w K mg base 1 "dot" ["p", "x", "y"] 3 d_dot) : FnOk P w K mg base CX0 2 f fd ["p", "m"] (spF K 2 d_determinant) :=
  den_ok (k := 1) (N := ["p", "m"]) F sc_determinant fun cdv A outer s H E hr => ⟨_, (pss_one (ps_ret (pe_cal c_dot hr (by decide) (by rfl) (pa_cons (pv 0) (pa_cons (pe_cal c_joined hr (by decide) (by rfl) (pa_cons (pv 0) (pa_cons (pe_slice sl_list (pv 1) (po_some pe_int) (po_some pe_int)) (pa_cons (pe_slice sl_list (pv 1) (po_some pe_int) (po_some pe_int)) pa_nil)))) (pa_cons (pe_slice sl_list (pv 1) (po_some pe_int) (po_some pe_int)) pa_nil)))))),
  (rs_ret (re_call (ra_cons (re_var 0) (ra_cons (re_call (ra_cons (re_var 0) (ra_cons (re_rf (rf_cut (lo := 0) (hi := 3) (re_var 1))) (ra_cons (re_rf (rf_cut (lo := 3) (hi := 6) (re_var 1))) ra_nil)))) (ra_cons (re_rf (rf_cut (lo := 6) (hi := 9) (re_var 1))) ra_nil)))))⟩
theorem sc_rows_of : FnScope ["m"] ["m"] (defScope s_rows_of) := ⟨rfl, rfl, rfl, by decide +kernel, rfl, by decide +kernel, by decide +kernel⟩
theorem ok_rows_of {f : Addr} {fd : FuncData} (F : Fun K "rows_of" "rows_of" s_rows_of f fd) : FnOk P w K mg base CX0 1 f fd ["m"] (spF K 1 d_rows_of) :=
  den_ok (k := 0) (N := ["m"]) F sc_rows_of fun cdv A outer s H E hr => ⟨_, (pss_one (ps_ret (pe_lst (pa_cons (pe_slice sl_list (pv 0) (po_some pe_int) (po_some pe_int)) (pa_cons (pe_slice sl_list (pv 0) (po_some pe_int) (po_some pe_int)) (pa_cons (pe_slice sl_list (pv 0) (po_some pe_int) (po_some pe_int)) pa_nil)))))),
  (rs_ret (re_rf (rf_lst (ra_cons (re_rf (rf_cut (lo := 0) (hi := 3) (re_var 0))) (ra_cons (re_rf (rf_cut (lo := 3) (hi := 6) (re_var 0))) (ra_cons (re_rf (rf_cut (lo := 6) (hi := 9) (re_var 0))) ra_nil))))))⟩
theorem sc_transposed : FnScope ["m", "i"] ["m"] (defScope s_transposed) := ⟨rfl, rfl, rfl, by decide +kernel, rfl, by decide +kernel, by decide +kernel⟩
theorem ok_transposed {f : Addr} {fd : FuncData} (F : Fun K "transposed" "transposed" s_transposed f fd) (z_range : mg "range" = none) : FnOk P w K mg base CX0 1 f fd ["m"] (spF K 1 d_transposed) :=
  den_ok (k := 0) (N := ["m", "i"]) F sc_transposed fun cdv A outer s H E hr => ⟨_, (pss_one (ps_ret (pe_lc rfl sc_transposed.nd (pi_range1 rfl z_range (pa_cons pe_int pa_nil)) (blkOk_by (N := ["m", "i"]) (sc := defScope s_transposed) (own := [("i", 1)]) (by decide +kernel)) (fun _ _ _ _ _ => pg_name (i := 1) sc_transposed.nd rfl (Or.inl rfl)) (fun _ _ _ _ _ => pts_nil) (fun _ _ _ _ _ => (pe_ix ix_seq (pv 0) (pe_op op_add (pe_op op_mul pe_int (pe_op op_mod (pv 1) pe_int)) (pe_op op_fdiv (pv 1) pe_int)) (fun _ _ => rfl)))))),
  (rs_ret (re_rf (rf_lcR1 (i := 1) (ra_cons (re_int 9) ra_nil) rt_yes (re_op ro_ix (re_var 0) (re_op ro_add (re_op ro_mul (re_int 3) (re_op ro_mod (re_var 1) (re_int 3))) (re_op ro_div (re_var 1) (re_int 3)))))))⟩
theorem sc_undone : FnScope ["p", "m", "rows"] ["p", "m"] (defScope s_undone) := ⟨rfl, rfl, rfl, by decide +kernel, rfl, by decide +kernel, by decide +kernel⟩
theorem ok_undone {f : Addr} {fd : FuncData} (F : Fun K "undone" "undone" s_undone f fd) (c_rows_of : Cal P w K mg base 1 "rows_of" ["m"] 1 d_rows_of) (c_joined : Cal P w K mg base 1 "joined" ["p", "x", "y"] 3 d_joined) (c_transposed : Cal P w K mg base 1 "transposed" ["m"] 1 d_transposed) : FnOk P w K mg base CX0 2 f fd ["p", "m"] (spF K 2 d_undone) :=
  den_ok (k := 1) (N := ["p", "m", "rows"]) F sc_undone fun cdv A outer s H E hr => ⟨_, (pss_cons (ps_set (i := 2) sc_undone.nd rfl (Or.inl rfl) (pe_cal c_rows_of hr (by decide) (by rfl) (pa_cons (pv 1) pa_nil)))
  (pss_one (ps_ret (pe_cal c_transposed hr (by decide) (by rfl) (pa_cons (pe_op op_catL (pe_op op_catL (pe_cal c_joined hr (by decide) (by rfl) (pa_cons (pv 0) (pa_cons (pe_ix ix_seq (pv 2) pe_int (fun _ _ => rfl)) (pa_cons (pe_ix ix_seq (pv 2) pe_int (fun _ _ => rfl)) pa_nil)))) (pe_cal c_joined hr (by decide) (by rfl) (pa_cons (pv 0) (pa_cons (pe_ix ix_seq (pv 2) pe_int (fun _ _ => rfl)) (pa_cons (pe_ix ix_seq (pv 2) pe_int (fun _ _ => rfl)) pa_nil))))) (pe_cal c_joined hr (by decide) (by rfl) (pa_cons (pv 0) (pa_cons (pe_ix ix_seq (pv 2) pe_int (fun _ _ => rfl)) (pa_cons (pe_ix ix_seq (pv 2) pe_int (fun _ _ => rfl)) pa_nil))))) pa_nil))))),
  (rs_seq (rs_set (i := 2) (re_call (ra_cons (re_var 1) ra_nil)))
  (rs_ret (re_call (ra_cons (re_rf (rf_cat (re_rf (rf_cat (re_call (ra_cons (re_var 0) (ra_cons (re_op ro_ix (re_var 2) (re_int 1)) (ra_cons (re_op ro_ix (re_var 2) (re_int 2)) ra_nil)))) (re_call (ra_cons (re_var 0) (ra_cons (re_op ro_ix (re_var 2) (re_int 2)) (ra_cons (re_op ro_ix (re_var 2) (re_int 0)) ra_nil)))))) (re_call (ra_cons (re_var 0) (ra_cons (re_op ro_ix (re_var 2) (re_int 0)) (ra_cons (re_op ro_ix (re_var 2) (re_int 1)) ra_nil)))))) ra_nil))))⟩
theorem sc_applied : FnScope ["p", "m", "x", "row"] ["p", "m", "x"] (defScope s_applied) := ⟨rfl, rfl, rfl, by decide +kernel, rfl, by decide +kernel, by decide +kernel⟩
theorem ok_applied {f : Addr} {fd : FuncData} (F : Fun K "applied" "applied" s_applied f fd) (c_rows_of : Cal P w K mg base 1 "rows_of" ["m"] 1 d_rows_of) (c_dot : Cal P w K mg base 1 "dot" ["p", "x", "y"] 3 d_dot) : FnOk P w K mg base CX0 2 f fd ["p", "m", "x"] (spF K 3 d_applied) :=
  den_ok (k := 1) (N := ["p", "m", "x", "row"]) F sc_applied fun cdv A outer s H E hr => ⟨_, (pss_one (ps_ret (pe_lc rfl sc_applied.nd (pi_list (pe_cal c_rows_of hr (by decide) (by rfl) (pa_cons (pv 1) pa_nil))) (blkOk_by (N := ["p", "m", "x", "row"]) (sc := defScope s_applied) (own := [("row", 3)]) (by decide +kernel)) (fun _ _ _ _ _ => pg_name (i := 3) sc_applied.nd rfl (Or.inl rfl)) (fun _ _ _ _ _ => pts_nil) (fun _ _ _ _ _ => (pe_cal c_dot hr (by decide) (by rfl) (pa_cons (pv 0) (pa_cons (pv 3) (pa_cons (pv 2) pa_nil)))))))),
  (rs_ret (re_rf (rf_lc (i := 3) (re_call (ra_cons (re_var 1) ra_nil)) rt_yes (re_call (ra_cons (re_var 0) (ra_cons (re_var 3) (ra_cons (re_var 2) ra_nil)))))))⟩
theorem sc_is_map : FnScope ["p", "numbers"] ["p", "numbers"] (defScope s_is_map) := ⟨rfl, rfl, rfl, by decide +kernel, rfl, by decide +kernel, by decide +kernel⟩
theorem ok_is_map {f : Addr} {fd : FuncData} (F : Fun K "is_map" "is_map" s_is_map f fd) (c_determinant : Cal P w K mg base 2 "determinant" ["p", "m"] 2 d_determinant) (z_len : mg "len" = none) : FnOk P w K mg base CX0 3 f fd ["p", "numbers"] (spF K 2 d_is_map) :=
  den_ok (k := 2) (N := ["p", "numbers"]) F sc_is_map fun cdv A outer s H E hr => ⟨_, (pss_one (ps_ret (pe_and (pe_cmpR op_eq (pe_callB call_len_seq (by rfl) z_len PySem.boot_len (pa_cons (pv 1) pa_nil)) pe_int (nomark _)) (pe_one (pe_cmpR op_ne (pe_cal c_determinant hr (by decide) (by rfl) (pa_cons (pv 0) (pa_cons (pv 1) pa_nil))) pe_int (nomark _)))))),
  (rs_ret (re_andV (re_op ro_eq (re_cb rc_len (ra_cons (re_var 1) ra_nil)) (re_int 9)) (re_op ro_ne (re_call (ra_cons (re_var 0) (ra_cons (re_var 1) ra_nil))) (re_int 0))))⟩
theorem sc_leaves_all : FnScope ["p", "m"] ["p", "m"] (defScope s_leaves_all) := ⟨rfl, rfl, rfl, by decide +kernel, rfl, by decide +kernel, by decide +kernel⟩
theorem ok_leaves_all {f : Addr} {fd : FuncData} (F : Fun K "leaves_all" "leaves_all" s_leaves_all f fd) (c_form_of : Cal P w K mg base 2 "form_of" ["p", "numbers"] 2 d_form_of) (z_list : mg "list" = none) {gv_IDENTITY : V} {gu_IDENTITY : Value} (g_IDENTITY : mg "IDENTITY" = some gu_IDENTITY ∧ RelV gv_IDENTITY gu_IDENTITY ∧ ∀ H, Dw K H gv_IDENTITY gd_IDENTITY) : FnOk P w K mg base CX0 3 f fd ["p", "m"] (spF K 2 d_leaves_all) :=
  den_ok (k := 2) (N := ["p", "m"]) F sc_leaves_all fun cdv A outer s H E hr => ⟨_, (pss_one (ps_ret (pe_cmpR (op_eqD hr.units) (pe_cal c_form_of hr (by decide) (by rfl) (pa_cons (pv 0) (pa_cons (pv 1) pa_nil))) (pe_callTy call_list_of (by rfl) z_list (by rfl) (pa_cons (pe_glob (by rfl) g_IDENTITY.1 g_IDENTITY.2.1) pa_nil)) (nomark _)))),
  (rs_ret (re_op ro_eqL (re_call (ra_cons (re_var 0) (ra_cons (re_var 1) ra_nil))) (re_rf (rf_new rn_list (ra_cons (re_c g_IDENTITY.2.2) ra_nil)))))⟩
theorem sc_rank_of : FnScope ["p", "m"] ["p", "m"] (defScope s_rank_of) := ⟨rfl, rfl, rfl, by decide +kernel, rfl, by decide +kernel, by decide +kernel⟩
theorem ok_rank_of {f : Addr} {fd : FuncData} (F : Fun K "rank_of" "rank_of" s_rank_of f fd) (c_determinant : Cal P w K mg base 2 "determinant" ["p", "m"] 2 d_determinant) (c_undone : Cal P w K mg base 2 "undone" ["p", "m"] 2 d_undone) (c_first_not_zero : Cal P w K mg base 1 "first_not_zero" ["p", "numbers"] 2 d_first_not_zero) : FnOk P w K mg base CX0 3 f fd ["p", "m"] (spF K 2 d_rank_of) :=
  den_ok (k := 2) (N := ["p", "m"]) F sc_rank_of fun cdv A outer s H E hr => ⟨_, (pss_cons (ps_if (pt_cmpR op_ne (pe_cal c_determinant hr (by decide) (by rfl) (pa_cons (pv 0) (pa_cons (pv 1) pa_nil))) pe_int (nomark _))
  (pss_one (ps_ret pe_int))
  pss_nil)
  (pss_one (ps_ret (pe_ifExp (pt_cmpR op_eq (pe_cal c_first_not_zero hr (by decide) (by rfl) (pa_cons (pv 0) (pa_cons (pe_cal c_undone hr (by decide) (by rfl) (pa_cons (pv 0) (pa_cons (pv 1) pa_nil))) pa_nil))) pe_int (nomark _)) pe_int pe_int)))),
  (rs_seq (rs_if (rt_test (re_op ro_ne (re_call (ra_cons (re_var 0) (ra_cons (re_var 1) ra_nil))) (re_int 0)))
  (rs_ret (re_int 3))
  rs_nil)
  (rs_ret (re_if (rt_test (re_op ro_eq (re_call (ra_cons (re_var 0) (ra_cons (re_call (ra_cons (re_var 0) (ra_cons (re_var 1) ra_nil))) ra_nil))) (re_int 0))) (re_int 1) (re_int 2))))⟩
theorem sc_line_that_stays : FnScope ["p", "m", "k", "rest", "row"] ["p", "m"] (defScope s_line_that_stays) := ⟨rfl, rfl, rfl, by decide +kernel, rfl, by decide +kernel, by decide +kernel⟩
theorem ok_line_that_stays {f : Addr} {fd : FuncData} (F : Fun K "line_that_stays" "line_that_stays" s_line_that_stays f fd) (c_mixed : Cal P w K mg base 1 "mixed" ["p", "s", "x", "t", "y"] 5 d_mixed) (c_rank_of : Cal P w K mg base 3 "rank_of" ["p", "m"] 2 d_rank_of) (c_rows_of : Cal P w K mg base 1 "rows_of" ["m"] 1 d_rows_of) (c_form_of : Cal P w K mg base 2 "form_of" ["p", "numbers"] 2 d_form_of) (c_first_not_zero : Cal P w K mg base 1 "first_not_zero" ["p", "numbers"] 2 d_first_not_zero) (z_range : mg "range" = none) {gv_IDENTITY : V} {gu_IDENTITY : Value} (g_IDENTITY : mg "IDENTITY" = some gu_IDENTITY ∧ RelV gv_IDENTITY gu_IDENTITY ∧ ∀ H, Dw K H gv_IDENTITY gd_IDENTITY) : FnOk P w K mg base CX0 4 f fd ["p", "m"] (spF K 2 d_line_that_stays) :=
  den_ok (k := 3) (N := ["p", "m", "k", "rest", "row"]) F sc_line_that_stays fun cdv A outer s H E hr => ⟨_, (pss_cons (ps_for PassesOwn.never rfl (pi_range2 rfl z_range (pa_cons pe_int (pa_cons (pv 0) pa_nil))) (pg_name (i := 2) sc_line_that_stays.nd rfl (Or.inl rfl))
  (pss_cons (ps_set (i := 3) sc_line_that_stays.nd rfl (Or.inl rfl) (pe_cal c_mixed hr (by decide) (by rfl) (pa_cons (pv 0) (pa_cons pe_int (pa_cons (pv 1) (pa_cons (pe_un un_neg (pv 2)) (pa_cons (pe_glob (by rfl) g_IDENTITY.1 g_IDENTITY.2.1) pa_nil)))))))
  (pss_one (ps_if (pt_cmpR op_eq (pe_cal c_rank_of hr (by decide) (by rfl) (pa_cons (pv 0) (pa_cons (pv 3) pa_nil))) pe_int (nomark _))
  (pss_one (ps_ret (pe_ix ix_seq (pe_lc rfl sc_line_that_stays.nd (pi_list (pe_cal c_rows_of hr (by decide) (by rfl) (pa_cons (pv 3) pa_nil))) (blkOk_by (N := ["p", "m", "k", "rest", "row"]) (sc := defScope s_line_that_stays) (own := [("row", 4)]) (by decide +kernel)) (fun _ _ _ _ _ => pg_name (i := 4) sc_line_that_stays.nd rfl (Or.inl rfl)) (fun _ _ _ _ _ => pts_one (pt_cmpR op_ne (pe_cal c_first_not_zero hr (by decide) (by rfl) (pa_cons (pv 0) (pa_cons (pv 4) pa_nil))) pe_int (nomark _))) (fun _ _ _ _ _ => (pe_cal c_form_of hr (by decide) (by rfl) (pa_cons (pv 0) (pa_cons (pv 4) pa_nil))))) pe_int (fun _ _ => rfl))))
  pss_nil))))
  (pss_one (ps_ret (pe_lst pa_nil)))),
  (rs_seq (rs_forR2 (i := 2) (ra_cons (re_int 1) (ra_cons (re_var 0) ra_nil))
  (rs_seq (rs_set (i := 3) (re_call (ra_cons (re_var 0) (ra_cons (re_int 1) (ra_cons (re_var 1) (ra_cons (re_neg (re_var 2)) (ra_cons (re_c g_IDENTITY.2.2) ra_nil)))))))
  (rs_if (rt_test (re_op ro_eq (re_call (ra_cons (re_var 0) (ra_cons (re_var 3) ra_nil))) (re_int 1)))
  (rs_ret (re_op ro_ix (re_rf (rf_lc (i := 4) (re_call (ra_cons (re_var 3) ra_nil)) (rt_test (re_op ro_ne (re_call (ra_cons (re_var 0) (ra_cons (re_var 4) ra_nil))) (re_int 0))) (re_call (ra_cons (re_var 0) (ra_cons (re_var 4) ra_nil))))) (re_int 0)))
  rs_nil)))
  (rs_ret (re_rf (rf_lst ra_nil))))⟩
theorem sc_counted : FnScope ["triples", "i"] ["triples"] (defScope s_counted) := ⟨rfl, rfl, rfl, by decide +kernel, rfl, by decide +kernel, by decide +kernel⟩
theorem ok_counted {f : Addr} {fd : FuncData} (F : Fun K "counted" "counted" s_counted f fd) (z_len : mg "len" = none) (z_range : mg "range" = none) : FnOk P w K mg base CX0 1 f fd ["triples"] (spF K 1 d_counted) :=
  den_ok (k := 0) (N := ["triples", "i"]) F sc_counted fun cdv A outer s H E hr => ⟨_, (pss_one (ps_ret (pe_op op_catL (pe_lst (pa_cons (pe_callB call_len_seq (by rfl) z_len PySem.boot_len (pa_cons (pv 0) pa_nil)) pa_nil)) (pe_lc rfl sc_counted.nd (pi_range1 rfl z_range (pa_cons (pe_op op_mul pe_int (pe_callB call_len_seq (by rfl) z_len PySem.boot_len (pa_cons (pv 0) pa_nil))) pa_nil)) (blkOk_by (N := ["triples", "i"]) (sc := defScope s_counted) (own := [("i", 1)]) (by decide +kernel)) (fun _ _ _ _ _ => pg_name (i := 1) sc_counted.nd rfl (Or.inl rfl)) (fun _ _ _ _ _ => pts_nil) (fun _ _ _ _ _ => (pe_ix ix_seq (pe_ix ix_seq (pv 0) (pe_op op_fdiv (pv 1) pe_int) (fun _ _ => rfl)) (pe_op op_mod (pv 1) pe_int) (fun _ _ => rfl))))))),
  (rs_ret (re_rf (rf_cat (re_rf (rf_lst (ra_cons (re_cb rc_len (ra_cons (re_var 0) ra_nil)) ra_nil))) (re_rf (rf_lcR1 (i := 1) (ra_cons (re_op ro_mul (re_int 3) (re_cb rc_len (ra_cons (re_var 0) ra_nil))) ra_nil) rt_yes (re_op ro_ix (re_op ro_ix (re_var 0) (re_op ro_div (re_var 1) (re_int 3))) (re_op ro_mod (re_var 1) (re_int 3))))))))⟩
theorem sc_fixed : FnScope ["p", "m", "stay", "line", "x"] ["p", "m"] (defScope s_fixed) := ⟨rfl, rfl, rfl, by decide +kernel, rfl, by decide +kernel, by decide +kernel⟩
theorem ok_fixed {f : Addr} {fd : FuncData} (F : Fun K "fixed" "fixed" s_fixed f fd) (c_is_map : Cal P w K mg base 3 "is_map" ["p", "numbers"] 2 d_is_map) (c_leaves_all : Cal P w K mg base 3 "leaves_all" ["p", "m"] 2 d_leaves_all) (c_all_points : Cal P w K mg base 1 "all_points" ["p"] 1 d_all_points) (c_applied : Cal P w K mg base 2 "applied" ["p", "m", "x"] 3 d_applied) (c_are_same : Cal P w K mg base 2 "are_same" ["p", "x", "y"] 3 d_are_same) (c_line_that_stays : Cal P w K mg base 4 "line_that_stays" ["p", "m"] 2 d_line_that_stays) (c_counted : Cal P w K mg base 1 "counted" ["triples"] 1 d_counted) (c_dot : Cal P w K mg base 1 "dot" ["p", "x", "y"] 3 d_dot) {gv_ODD_PRIMES : V} {gu_ODD_PRIMES : Value} (g_ODD_PRIMES : mg "ODD_PRIMES" = some gu_ODD_PRIMES ∧ RelV gv_ODD_PRIMES gu_ODD_PRIMES ∧ ∀ H, Dw K H gv_ODD_PRIMES gd_ODD_PRIMES) : FnOk P w K mg base CX0 5 f fd ["p", "m"] (spF K 2 d_fixed) :=
  den_ok (k := 4) (N := ["p", "m", "stay", "line", "x"]) F sc_fixed fun cdv A outer s H E hr => ⟨_, (pss_cons (ps_if (pt_not (PW.pt (pw_and (pt_cmpR op_in_seq (pv 0) (pe_glob (by rfl) g_ODD_PRIMES.1 g_ODD_PRIMES.2.1) (by with_unfolding_all rfl)) (pw_and1 (pt_val (pe_cal c_is_map hr (by decide) (by rfl) (pa_cons (pv 0) (pa_cons (pv 1) pa_nil))))))))
  (pss_one (ps_ret (pe_lst (pa_cons (pe_un un_neg pe_int) pa_nil))))
  pss_nil)
  (pss_cons (ps_if (pt_val (pe_cal c_leaves_all hr (by decide) (by rfl) (pa_cons (pv 0) (pa_cons (pv 1) pa_nil))))
  (pss_one (ps_ret (pe_lst (pa_cons pe_int (pa_cons pe_int (pa_cons pe_int pa_nil))))))
  pss_nil)
  (pss_cons (ps_setLc (i := 2) rfl sc_fixed.nd rfl rfl (sw_true rfl rfl rfl rfl) (pi_list (pe_cal c_all_points hr (by decide) (by rfl) (pa_cons (pv 0) pa_nil))) (blkOk_by (N := ["p", "m", "stay", "line", "x"]) (sc := defScope s_fixed) (own := [("x", 4)]) (by decide +kernel)) (fun _ _ _ _ _ => pg_name (i := 4) sc_fixed.nd rfl (Or.inl rfl)) (fun _ _ _ _ _ => pts_one (pt_val (pe_cal c_are_same hr (by decide) (by rfl) (pa_cons (pv 0) (pa_cons (pe_cal c_applied hr (by decide) (by rfl) (pa_cons (pv 0) (pa_cons (pv 1) (pa_cons (pv 4) pa_nil)))) (pa_cons (pv 4) pa_nil)))))) (fun _ _ _ _ _ => (pv 4)))
  (pss_cons (ps_set (i := 3) sc_fixed.nd rfl (Or.inr rfl) (pe_cal c_line_that_stays hr (by decide) (by rfl) (pa_cons (pv 0) (pa_cons (pv 1) pa_nil))))
  (pss_cons (ps_if (pt_cmpR (op_eqD hr.units) (pv 3) (pe_lst pa_nil) (nomark _))
  (pss_one (ps_ret (pe_op op_catL (pe_lst (pa_cons pe_int (pa_cons pe_int pa_nil))) (pe_cal c_counted hr (by decide) (by rfl) (pa_cons (pv 2) pa_nil)))))
  pss_nil)
  (pss_one (ps_ret (pe_op op_catL (pe_op op_catL (pe_lst (pa_cons pe_int (pa_cons pe_int pa_nil))) (pv 3)) (pe_cal c_counted hr (by decide) (by rfl) (pa_cons (pe_lc rfl sc_fixed.nd (pi_list (pv 2)) (blkOk_by (N := ["p", "m", "stay", "line", "x"]) (sc := defScope s_fixed) (own := [("x", 4)]) (by decide +kernel)) (fun _ _ _ _ _ => pg_name (i := 4) sc_fixed.nd rfl (Or.inl rfl)) (fun _ _ _ _ _ => pts_one (pt_cmpR op_ne (pe_cal c_dot hr (by decide) (by rfl) (pa_cons (pv 0) (pa_cons (pv 4) (pa_cons (pv 3) pa_nil)))) pe_int (nomark _))) (fun _ _ _ _ _ => (pv 4))) pa_nil)))))))))),
  (rs_seq (rs_if (rt_not (rt_and (rt_test (re_op ro_in (re_var 0) (re_c g_ODD_PRIMES.2.2))) (rt_b (re_call (ra_cons (re_var 0) (ra_cons (re_var 1) ra_nil))))))
  (rs_ret (re_rf (rf_lst (ra_cons (re_neg (re_int 1)) ra_nil))))
  rs_nil)
  (rs_seq (rs_if (rt_b (re_call (ra_cons (re_var 0) (ra_cons (re_var 1) ra_nil))))
  (rs_ret (re_rf (rf_lst (ra_cons (re_int 0) (ra_cons (re_int 2) (ra_cons (re_int 0) ra_nil))))))
  rs_nil)
  (rs_seq (rs_set (i := 2) (re_rf (rf_lc (i := 4) (re_call (ra_cons (re_var 0) ra_nil)) (rt_b (re_call (ra_cons (re_var 0) (ra_cons (re_call (ra_cons (re_var 0) (ra_cons (re_var 1) (ra_cons (re_var 4) ra_nil)))) (ra_cons (re_var 4) ra_nil))))) (re_var 4))))
  (rs_seq (rs_set (i := 3) (re_call (ra_cons (re_var 0) (ra_cons (re_var 1) ra_nil))))
  (rs_seq (rs_if (rt_test (re_op ro_eqL (re_var 3) (re_rf (rf_lst ra_nil))))
  (rs_ret (re_rf (rf_cat (re_rf (rf_lst (ra_cons (re_int 0) (ra_cons (re_int 0) ra_nil)))) (re_call (ra_cons (re_var 2) ra_nil)))))
  rs_nil)
  (rs_ret (re_rf (rf_cat (re_rf (rf_cat (re_rf (rf_lst (ra_cons (re_int 0) (ra_cons (re_int 1) ra_nil)))) (re_var 3))) (re_call (ra_cons (re_rf (rf_lc (i := 4) (re_var 2) (rt_test (re_op ro_ne (re_call (ra_cons (re_var 0) (ra_cons (re_var 4) (ra_cons (re_var 3) ra_nil)))) (re_int 0))) (re_var 4))) ra_nil))))))))))⟩
end

theorem all_mk {P : Program} {w : World} {K : PySem.W.Frag} {h : Heap} {mg : Str → Option Value} {fa : Addr} (X : K.In h) (G : h.Ns mainGlobals mg) (hfa : mg "fixed" = some (.ref fa))
    {f0 : Addr} {od0 an0 : Option Addr} {sl0 : Array (Option Value)} {oc0 kV0 dc0 pm0 cd0 ct0 : Value} (a0 : PySem.W.nsIn K mainGlobals "first_not_zero" = some (some (.ref f0))) (l0 : K.lookup f0 = some ⟨oc0, od0, .func (PySem.W.fnOf "first_not_zero" "first_not_zero" (defArgs s_first_not_zero) (defBody s_first_not_zero) (defScope s_first_not_zero) .none kV0 dc0 pm0 an0 cd0 ct0), sl0⟩) (e0 : PySem.W.codeIn K cd0 "first_not_zero" = true) (k0 : PySem.W.keepIn K (.ref f0) = true)
    {f1 : Addr} {od1 an1 : Option Addr} {sl1 : Array (Option Value)} {oc1 kV1 dc1 pm1 cd1 ct1 : Value} (a1 : PySem.W.nsIn K mainGlobals "inverse" = some (some (.ref f1))) (l1 : K.lookup f1 = some ⟨oc1, od1, .func (PySem.W.fnOf "inverse" "inverse" (defArgs s_inverse) (defBody s_inverse) (defScope s_inverse) .none kV1 dc1 pm1 an1 cd1 ct1), sl1⟩) (e1 : PySem.W.codeIn K cd1 "inverse" = true) (k1 : PySem.W.keepIn K (.ref f1) = true)
    {f2 : Addr} {od2 an2 : Option Addr} {sl2 : Array (Option Value)} {oc2 kV2 dc2 pm2 cd2 ct2 : Value} (a2 : PySem.W.nsIn K mainGlobals "form_of" = some (some (.ref f2))) (l2 : K.lookup f2 = some ⟨oc2, od2, .func (PySem.W.fnOf "form_of" "form_of" (defArgs s_form_of) (defBody s_form_of) (defScope s_form_of) .none kV2 dc2 pm2 an2 cd2 ct2), sl2⟩) (e2 : PySem.W.codeIn K cd2 "form_of" = true) (k2 : PySem.W.keepIn K (.ref f2) = true)
    {f3 : Addr} {od3 an3 : Option Addr} {sl3 : Array (Option Value)} {oc3 kV3 dc3 pm3 cd3 ct3 : Value} (a3 : PySem.W.nsIn K mainGlobals "all_points" = some (some (.ref f3))) (l3 : K.lookup f3 = some ⟨oc3, od3, .func (PySem.W.fnOf "all_points" "all_points" (defArgs s_all_points) (defBody s_all_points) (defScope s_all_points) .none kV3 dc3 pm3 an3 cd3 ct3), sl3⟩) (e3 : PySem.W.codeIn K cd3 "all_points" = true) (k3 : PySem.W.keepIn K (.ref f3) = true)
    {f4 : Addr} {od4 an4 : Option Addr} {sl4 : Array (Option Value)} {oc4 kV4 dc4 pm4 cd4 ct4 : Value} (a4 : PySem.W.nsIn K mainGlobals "dot" = some (some (.ref f4))) (l4 : K.lookup f4 = some ⟨oc4, od4, .func (PySem.W.fnOf "dot" "dot" (defArgs s_dot) (defBody s_dot) (defScope s_dot) .none kV4 dc4 pm4 an4 cd4 ct4), sl4⟩) (e4 : PySem.W.codeIn K cd4 "dot" = true) (k4 : PySem.W.keepIn K (.ref f4) = true)
    {f5 : Addr} {od5 an5 : Option Addr} {sl5 : Array (Option Value)} {oc5 kV5 dc5 pm5 cd5 ct5 : Value} (a5 : PySem.W.nsIn K mainGlobals "mixed" = some (some (.ref f5))) (l5 : K.lookup f5 = some ⟨oc5, od5, .func (PySem.W.fnOf "mixed" "mixed" (defArgs s_mixed) (defBody s_mixed) (defScope s_mixed) .none kV5 dc5 pm5 an5 cd5 ct5), sl5⟩) (e5 : PySem.W.codeIn K cd5 "mixed" = true) (k5 : PySem.W.keepIn K (.ref f5) = true)
    {f6 : Addr} {od6 an6 : Option Addr} {sl6 : Array (Option Value)} {oc6 kV6 dc6 pm6 cd6 ct6 : Value} (a6 : PySem.W.nsIn K mainGlobals "joined" = some (some (.ref f6))) (l6 : K.lookup f6 = some ⟨oc6, od6, .func (PySem.W.fnOf "joined" "joined" (defArgs s_joined) (defBody s_joined) (defScope s_joined) .none kV6 dc6 pm6 an6 cd6 ct6), sl6⟩) (e6 : PySem.W.codeIn K cd6 "joined" = true) (k6 : PySem.W.keepIn K (.ref f6) = true)
    {f7 : Addr} {od7 an7 : Option Addr} {sl7 : Array (Option Value)} {oc7 kV7 dc7 pm7 cd7 ct7 : Value} (a7 : PySem.W.nsIn K mainGlobals "are_same" = some (some (.ref f7))) (l7 : K.lookup f7 = some ⟨oc7, od7, .func (PySem.W.fnOf "are_same" "are_same" (defArgs s_are_same) (defBody s_are_same) (defScope s_are_same) .none kV7 dc7 pm7 an7 cd7 ct7), sl7⟩) (e7 : PySem.W.codeIn K cd7 "are_same" = true) (k7 : PySem.W.keepIn K (.ref f7) = true)
    {f8 : Addr} {od8 an8 : Option Addr} {sl8 : Array (Option Value)} {oc8 kV8 dc8 pm8 cd8 ct8 : Value} (a8 : PySem.W.nsIn K mainGlobals "determinant" = some (some (.ref f8))) (l8 : K.lookup f8 = some ⟨oc8, od8, .func (PySem.W.fnOf "determinant" "determinant" (defArgs s_determinant) (defBody s_determinant) (defScope s_determinant) .none kV8 dc8 pm8 an8 cd8 ct8), sl8⟩) (e8 : PySem.W.codeIn K cd8 "determinant" = true) (k8 : PySem.W.keepIn K (.ref f8) = true)
    {f9 : Addr} {od9 an9 : Option Addr} {sl9 : Array (Option Value)} {oc9 kV9 dc9 pm9 cd9 ct9 : Value} (a9 : PySem.W.nsIn K mainGlobals "rows_of" = some (some (.ref f9))) (l9 : K.lookup f9 = some ⟨oc9, od9, .func (PySem.W.fnOf "rows_of" "rows_of" (defArgs s_rows_of) (defBody s_rows_of) (defScope s_rows_of) .none kV9 dc9 pm9 an9 cd9 ct9), sl9⟩) (e9 : PySem.W.codeIn K cd9 "rows_of" = true) (k9 : PySem.W.keepIn K (.ref f9) = true)
    {f10 : Addr} {od10 an10 : Option Addr} {sl10 : Array (Option Value)} {oc10 kV10 dc10 pm10 cd10 ct10 : Value} (a10 : PySem.W.nsIn K mainGlobals "transposed" = some (some (.ref f10))) (l10 : K.lookup f10 = some ⟨oc10, od10, .func (PySem.W.fnOf "transposed" "transposed" (defArgs s_transposed) (defBody s_transposed) (defScope s_transposed) .none kV10 dc10 pm10 an10 cd10 ct10), sl10⟩) (e10 : PySem.W.codeIn K cd10 "transposed" = true) (k10 : PySem.W.keepIn K (.ref f10) = true)
    {f11 : Addr} {od11 an11 : Option Addr} {sl11 : Array (Option Value)} {oc11 kV11 dc11 pm11 cd11 ct11 : Value} (a11 : PySem.W.nsIn K mainGlobals "undone" = some (some (.ref f11))) (l11 : K.lookup f11 = some ⟨oc11, od11, .func (PySem.W.fnOf "undone" "undone" (defArgs s_undone) (defBody s_undone) (defScope s_undone) .none kV11 dc11 pm11 an11 cd11 ct11), sl11⟩) (e11 : PySem.W.codeIn K cd11 "undone" = true) (k11 : PySem.W.keepIn K (.ref f11) = true)
    {f12 : Addr} {od12 an12 : Option Addr} {sl12 : Array (Option Value)} {oc12 kV12 dc12 pm12 cd12 ct12 : Value} (a12 : PySem.W.nsIn K mainGlobals "applied" = some (some (.ref f12))) (l12 : K.lookup f12 = some ⟨oc12, od12, .func (PySem.W.fnOf "applied" "applied" (defArgs s_applied) (defBody s_applied) (defScope s_applied) .none kV12 dc12 pm12 an12 cd12 ct12), sl12⟩) (e12 : PySem.W.codeIn K cd12 "applied" = true) (k12 : PySem.W.keepIn K (.ref f12) = true)
    {f13 : Addr} {od13 an13 : Option Addr} {sl13 : Array (Option Value)} {oc13 kV13 dc13 pm13 cd13 ct13 : Value} (a13 : PySem.W.nsIn K mainGlobals "is_map" = some (some (.ref f13))) (l13 : K.lookup f13 = some ⟨oc13, od13, .func (PySem.W.fnOf "is_map" "is_map" (defArgs s_is_map) (defBody s_is_map) (defScope s_is_map) .none kV13 dc13 pm13 an13 cd13 ct13), sl13⟩) (e13 : PySem.W.codeIn K cd13 "is_map" = true) (k13 : PySem.W.keepIn K (.ref f13) = true)
    {f14 : Addr} {od14 an14 : Option Addr} {sl14 : Array (Option Value)} {oc14 kV14 dc14 pm14 cd14 ct14 : Value} (a14 : PySem.W.nsIn K mainGlobals "leaves_all" = some (some (.ref f14))) (l14 : K.lookup f14 = some ⟨oc14, od14, .func (PySem.W.fnOf "leaves_all" "leaves_all" (defArgs s_leaves_all) (defBody s_leaves_all) (defScope s_leaves_all) .none kV14 dc14 pm14 an14 cd14 ct14), sl14⟩) (e14 : PySem.W.codeIn K cd14 "leaves_all" = true) (k14 : PySem.W.keepIn K (.ref f14) = true)
    {f15 : Addr} {od15 an15 : Option Addr} {sl15 : Array (Option Value)} {oc15 kV15 dc15 pm15 cd15 ct15 : Value} (a15 : PySem.W.nsIn K mainGlobals "rank_of" = some (some (.ref f15))) (l15 : K.lookup f15 = some ⟨oc15, od15, .func (PySem.W.fnOf "rank_of" "rank_of" (defArgs s_rank_of) (defBody s_rank_of) (defScope s_rank_of) .none kV15 dc15 pm15 an15 cd15 ct15), sl15⟩) (e15 : PySem.W.codeIn K cd15 "rank_of" = true) (k15 : PySem.W.keepIn K (.ref f15) = true)
    {f16 : Addr} {od16 an16 : Option Addr} {sl16 : Array (Option Value)} {oc16 kV16 dc16 pm16 cd16 ct16 : Value} (a16 : PySem.W.nsIn K mainGlobals "line_that_stays" = some (some (.ref f16))) (l16 : K.lookup f16 = some ⟨oc16, od16, .func (PySem.W.fnOf "line_that_stays" "line_that_stays" (defArgs s_line_that_stays) (defBody s_line_that_stays) (defScope s_line_that_stays) .none kV16 dc16 pm16 an16 cd16 ct16), sl16⟩) (e16 : PySem.W.codeIn K cd16 "line_that_stays" = true) (k16 : PySem.W.keepIn K (.ref f16) = true)
    {f17 : Addr} {od17 an17 : Option Addr} {sl17 : Array (Option Value)} {oc17 kV17 dc17 pm17 cd17 ct17 : Value} (a17 : PySem.W.nsIn K mainGlobals "counted" = some (some (.ref f17))) (l17 : K.lookup f17 = some ⟨oc17, od17, .func (PySem.W.fnOf "counted" "counted" (defArgs s_counted) (defBody s_counted) (defScope s_counted) .none kV17 dc17 pm17 an17 cd17 ct17), sl17⟩) (e17 : PySem.W.codeIn K cd17 "counted" = true) (k17 : PySem.W.keepIn K (.ref f17) = true)
    {f18 : Addr} {od18 an18 : Option Addr} {sl18 : Array (Option Value)} {oc18 kV18 dc18 pm18 cd18 ct18 : Value} (a18 : PySem.W.nsIn K mainGlobals "fixed" = some (some (.ref f18))) (l18 : K.lookup f18 = some ⟨oc18, od18, .func (PySem.W.fnOf "fixed" "fixed" (defArgs s_fixed) (defBody s_fixed) (defScope s_fixed) .none kV18 dc18 pm18 an18 cd18 ct18), sl18⟩) (e18 : PySem.W.codeIn K cd18 "fixed" = true) (k18 : PySem.W.keepIn K (.ref f18) = true)
    (zz_len : PySem.W.nsIn K mainGlobals "len" = some none)
    (zz_list : PySem.W.nsIn K mainGlobals "list" = some none)
    (zz_range : PySem.W.nsIn K mainGlobals "range" = some none)
    {ga_IDENTITY : Addr} {god_IDENTITY : Option Addr} {gi_IDENTITY : Array Value} {gn_IDENTITY : Nat} {gs_IDENTITY : Array (Option Value)} (gg_IDENTITY : PySem.W.nsIn K mainGlobals "IDENTITY" = some (some (.ref ga_IDENTITY))) (gl_IDENTITY : K.lookup ga_IDENTITY = some ⟨.type "tuple", god_IDENTITY, .seq gi_IDENTITY gn_IDENTITY, gs_IDENTITY⟩) (gz_IDENTITY : gi_IDENTITY.size ≤ sizeLine) (gv_IDENTITY : Vals (([1, 0, 0, 0, 1, 0, 0, 0, 1] : List Int).map V.int) gi_IDENTITY.toList)
    {ga_ODD_PRIMES : Addr} {god_ODD_PRIMES : Option Addr} {gi_ODD_PRIMES : Array Value} {gn_ODD_PRIMES : Nat} {gs_ODD_PRIMES : Array (Option Value)} (gg_ODD_PRIMES : PySem.W.nsIn K mainGlobals "ODD_PRIMES" = some (some (.ref ga_ODD_PRIMES))) (gl_ODD_PRIMES : K.lookup ga_ODD_PRIMES = some ⟨.type "tuple", god_ODD_PRIMES, .seq gi_ODD_PRIMES gn_ODD_PRIMES, gs_ODD_PRIMES⟩) (gz_ODD_PRIMES : gi_ODD_PRIMES.size ≤ sizeLine) (gv_ODD_PRIMES : Vals (([3, 5, 7, 11, 13, 17, 19, 23, 29, 31] : List Int).map V.int) gi_ODD_PRIMES.toList) :
    ∃ fd : FuncData, (∀ (s : Shared) (us : List Value), us.length = (["p", "m"] : List Str).length → BindsTo s fd ⟨us, []⟩ ((["p", "m"] : List Str).zip us)) ∧ ∀ base : Heap, K.In base → base.Ns mainGlobals mg → FnOk P w K mg base CX0 5 fa fd ["p", "m"] (spF K 2 d_fixed) := by
  have e := hfa.symm.trans (PySem.W.mg_of X G a18)
  cases e
  have z_len := PySem.W.mg_none_of X G zz_len
  have z_list := PySem.W.mg_none_of X G zz_list
  have z_range := PySem.W.mg_none_of X G zz_range
  have g_IDENTITY : mg "IDENTITY" = some (.ref ga_IDENTITY) ∧ RelV (.ref ga_IDENTITY) (.ref ga_IDENTITY) ∧ ∀ H, Dw K H (.ref ga_IDENTITY) gd_IDENTITY := ⟨PySem.W.mg_of X G gg_IDENTITY, rfl, fun H => .tup (.inr ⟨_, gi_IDENTITY, gn_IDENTITY, gl_IDENTITY, rfl, rfl, gz_IDENTITY, gv_IDENTITY⟩) (dw_ints _)⟩
  have g_ODD_PRIMES : mg "ODD_PRIMES" = some (.ref ga_ODD_PRIMES) ∧ RelV (.ref ga_ODD_PRIMES) (.ref ga_ODD_PRIMES) ∧ ∀ H, Dw K H (.ref ga_ODD_PRIMES) gd_ODD_PRIMES := ⟨PySem.W.mg_of X G gg_ODD_PRIMES, rfl, fun H => .tup (.inr ⟨_, gi_ODD_PRIMES, gn_ODD_PRIMES, gl_ODD_PRIMES, rfl, rfl, gz_ODD_PRIMES, gv_ODD_PRIMES⟩) (dw_ints _)⟩
  have F0 := fun_mk (st := s_first_not_zero) l0 e0 k0
  have b0 := F0.binds (ps := ["p", "numbers"]) fun _ _ _ _ _ _ us hl => match us, hl with | [_, _], _ => rfl
  have F1 := fun_mk (st := s_inverse) l1 e1 k1
  have b1 := F1.binds (ps := ["p", "a"]) fun _ _ _ _ _ _ us hl => match us, hl with | [_, _], _ => rfl
  have F2 := fun_mk (st := s_form_of) l2 e2 k2
  have b2 := F2.binds (ps := ["p", "numbers"]) fun _ _ _ _ _ _ us hl => match us, hl with | [_, _], _ => rfl
  have F3 := fun_mk (st := s_all_points) l3 e3 k3
  have b3 := F3.binds (ps := ["p"]) fun _ _ _ _ _ _ us hl => match us, hl with | [_], _ => rfl
  have F4 := fun_mk (st := s_dot) l4 e4 k4
  have b4 := F4.binds (ps := ["p", "x", "y"]) fun _ _ _ _ _ _ us hl => match us, hl with | [_, _, _], _ => rfl
  have F5 := fun_mk (st := s_mixed) l5 e5 k5
  have b5 := F5.binds (ps := ["p", "s", "x", "t", "y"]) fun _ _ _ _ _ _ us hl => match us, hl with | [_, _, _, _, _], _ => rfl
  have F6 := fun_mk (st := s_joined) l6 e6 k6
  have b6 := F6.binds (ps := ["p", "x", "y"]) fun _ _ _ _ _ _ us hl => match us, hl with | [_, _, _], _ => rfl
  have F7 := fun_mk (st := s_are_same) l7 e7 k7
  have b7 := F7.binds (ps := ["p", "x", "y"]) fun _ _ _ _ _ _ us hl => match us, hl with | [_, _, _], _ => rfl
  have F8 := fun_mk (st := s_determinant) l8 e8 k8
  have b8 := F8.binds (ps := ["p", "m"]) fun _ _ _ _ _ _ us hl => match us, hl with | [_, _], _ => rfl
  have F9 := fun_mk (st := s_rows_of) l9 e9 k9
  have b9 := F9.binds (ps := ["m"]) fun _ _ _ _ _ _ us hl => match us, hl with | [_], _ => rfl
  have F10 := fun_mk (st := s_transposed) l10 e10 k10
  have b10 := F10.binds (ps := ["m"]) fun _ _ _ _ _ _ us hl => match us, hl with | [_], _ => rfl
  have F11 := fun_mk (st := s_undone) l11 e11 k11
  have b11 := F11.binds (ps := ["p", "m"]) fun _ _ _ _ _ _ us hl => match us, hl with | [_, _], _ => rfl
  have F12 := fun_mk (st := s_applied) l12 e12 k12
  have b12 := F12.binds (ps := ["p", "m", "x"]) fun _ _ _ _ _ _ us hl => match us, hl with | [_, _, _], _ => rfl
  have F13 := fun_mk (st := s_is_map) l13 e13 k13
  have b13 := F13.binds (ps := ["p", "numbers"]) fun _ _ _ _ _ _ us hl => match us, hl with | [_, _], _ => rfl
  have F14 := fun_mk (st := s_leaves_all) l14 e14 k14
  have b14 := F14.binds (ps := ["p", "m"]) fun _ _ _ _ _ _ us hl => match us, hl with | [_, _], _ => rfl
  have F15 := fun_mk (st := s_rank_of) l15 e15 k15
  have b15 := F15.binds (ps := ["p", "m"]) fun _ _ _ _ _ _ us hl => match us, hl with | [_, _], _ => rfl
  have F16 := fun_mk (st := s_line_that_stays) l16 e16 k16
  have b16 := F16.binds (ps := ["p", "m"]) fun _ _ _ _ _ _ us hl => match us, hl with | [_, _], _ => rfl
  have F17 := fun_mk (st := s_counted) l17 e17 k17
  have b17 := F17.binds (ps := ["triples"]) fun _ _ _ _ _ _ us hl => match us, hl with | [_], _ => rfl
  have F18 := fun_mk (st := s_fixed) l18 e18 k18
  refine ⟨PySem.W.fnOf "fixed" "fixed" (defArgs s_fixed) (defBody s_fixed) (defScope s_fixed) .none kV18 dc18 pm18 an18 cd18 ct18, fun s us hu => match us, hu with | [_, _], _ => .of_eq rfl, fun base _ _ => ?_⟩
  have c_first_not_zero : Cal P w K mg base 1 "first_not_zero" ["p", "numbers"] 2 d_first_not_zero := ⟨_, _, ok_first_not_zero F0, PySem.W.mg_of X G a0, k0, b0⟩
  have c_inverse : Cal P w K mg base 1 "inverse" ["p", "a"] 2 d_inverse := ⟨_, _, ok_inverse F1 z_range, PySem.W.mg_of X G a1, k1, b1⟩
  have c_form_of : Cal P w K mg base 2 "form_of" ["p", "numbers"] 2 d_form_of := ⟨_, _, ok_form_of F2 c_first_not_zero c_inverse, PySem.W.mg_of X G a2, k2, b2⟩
  have c_all_points : Cal P w K mg base 1 "all_points" ["p"] 1 d_all_points := ⟨_, _, ok_all_points F3 z_range, PySem.W.mg_of X G a3, k3, b3⟩
  have c_dot : Cal P w K mg base 1 "dot" ["p", "x", "y"] 3 d_dot := ⟨_, _, ok_dot F4, PySem.W.mg_of X G a4, k4, b4⟩
  have c_mixed : Cal P w K mg base 1 "mixed" ["p", "s", "x", "t", "y"] 5 d_mixed := ⟨_, _, ok_mixed F5 z_range z_len, PySem.W.mg_of X G a5, k5, b5⟩
  have c_joined : Cal P w K mg base 1 "joined" ["p", "x", "y"] 3 d_joined := ⟨_, _, ok_joined F6, PySem.W.mg_of X G a6, k6, b6⟩
  have c_are_same : Cal P w K mg base 2 "are_same" ["p", "x", "y"] 3 d_are_same := ⟨_, _, ok_are_same F7 c_joined c_first_not_zero, PySem.W.mg_of X G a7, k7, b7⟩
  have c_determinant : Cal P w K mg base 2 "determinant" ["p", "m"] 2 d_determinant := ⟨_, _, ok_determinant F8 c_joined c_dot, PySem.W.mg_of X G a8, k8, b8⟩
  have c_rows_of : Cal P w K mg base 1 "rows_of" ["m"] 1 d_rows_of := ⟨_, _, ok_rows_of F9, PySem.W.mg_of X G a9, k9, b9⟩
  have c_transposed : Cal P w K mg base 1 "transposed" ["m"] 1 d_transposed := ⟨_, _, ok_transposed F10 z_range, PySem.W.mg_of X G a10, k10, b10⟩
  have c_undone : Cal P w K mg base 2 "undone" ["p", "m"] 2 d_undone := ⟨_, _, ok_undone F11 c_rows_of c_joined c_transposed, PySem.W.mg_of X G a11, k11, b11⟩
  have c_applied : Cal P w K mg base 2 "applied" ["p", "m", "x"] 3 d_applied := ⟨_, _, ok_applied F12 c_rows_of c_dot, PySem.W.mg_of X G a12, k12, b12⟩
  have c_is_map : Cal P w K mg base 3 "is_map" ["p", "numbers"] 2 d_is_map := ⟨_, _, ok_is_map F13 c_determinant z_len, PySem.W.mg_of X G a13, k13, b13⟩
  have c_leaves_all : Cal P w K mg base 3 "leaves_all" ["p", "m"] 2 d_leaves_all := ⟨_, _, ok_leaves_all F14 c_form_of z_list g_IDENTITY, PySem.W.mg_of X G a14, k14, b14⟩
  have c_rank_of : Cal P w K mg base 3 "rank_of" ["p", "m"] 2 d_rank_of := ⟨_, _, ok_rank_of F15 c_determinant c_undone c_first_not_zero, PySem.W.mg_of X G a15, k15, b15⟩
  have c_line_that_stays : Cal P w K mg base 4 "line_that_stays" ["p", "m"] 2 d_line_that_stays := ⟨_, _, ok_line_that_stays F16 c_mixed c_rank_of c_rows_of c_form_of c_first_not_zero z_range g_IDENTITY, PySem.W.mg_of X G a16, k16, b16⟩
  have c_counted : Cal P w K mg base 1 "counted" ["triples"] 1 d_counted := ⟨_, _, ok_counted F17 z_len z_range, PySem.W.mg_of X G a17, k17, b17⟩
  exact ok_fixed F18 c_is_map c_leaves_all c_all_points c_applied c_are_same c_line_that_stays c_counted c_dot g_ODD_PRIMES
end Pb
end
open PySem PySem.W PyProof.Rows
set_option maxRecDepth 100000 in
set_option maxHeartbeats 0 in
theorem PySem.Challenge.cw_planebook_s14_fixed_holds : PySem.Challenge.rw_planebook_s14_fixed.Holds := by
  w_on; k_headS; (case hw => exact ⟨[.int 0, .list []], by decide +kernel, by decide +kernel⟩)
  k_fillS
  refine L2.walk_specK (r := PySem.Challenge.rw_planebook_s14_fixed) (k := 5) (CX := L2.CX0) (ps := ["p", "m"]) (sp := fun K => Dn.spF K 2 Pb.d_fixed) (by decide +kernel) rfl rfl ⟨rfl, by decide, by decide⟩ (fun w h Y => PySem.W.kIn_of Y) ?F ?S (fun _ _ _ _ z => z)
  case F =>
    intro w mg fa h Y KX G hmg
    refine' Pb.all_mk KX G hmg ?a0 ?l0 ?e0 ?k0 ?a1 ?l1 ?e1 ?k1 ?a2 ?l2 ?e2 ?k2 ?a3 ?l3 ?e3 ?k3 ?a4 ?l4 ?e4 ?k4 ?a5 ?l5 ?e5 ?k5 ?a6 ?l6 ?e6 ?k6 ?a7 ?l7 ?e7 ?k7 ?a8 ?l8 ?e8 ?k8 ?a9 ?l9 ?e9 ?k9 ?a10 ?l10 ?e10 ?k10 ?a11 ?l11 ?e11 ?k11 ?a12 ?l12 ?e12 ?k12 ?a13 ?l13 ?e13 ?k13 ?a14 ?l14 ?e14 ?k14 ?a15 ?l15 ?e15 ?k15 ?a16 ?l16 ?e16 ?k16 ?a17 ?l17 ?e17 ?k17 ?a18 ?l18 ?e18 ?k18 ?zz_len ?zz_list ?zz_range ?gg_IDENTITY ?gl_IDENTITY ?gz_IDENTITY ?gv_IDENTITY ?gg_ODD_PRIMES ?gl_ODD_PRIMES ?gz_ODD_PRIMES ?gv_ODD_PRIMES
    (case a0 => k_is)
    (case l0 => k_is)
    (case e0 => k_is)
    (case k0 => k_is)
    (case a1 => k_is)
    (case l1 => k_is)
    (case e1 => k_is)
    (case k1 => k_is)
    (case a2 => k_is)
    (case l2 => k_is)
    (case e2 => k_is)
    (case k2 => k_is)
    (case a3 => k_is)
    (case l3 => k_is)
    (case e3 => k_is)
    (case k3 => k_is)
    (case a4 => k_is)
    (case l4 => k_is)
    (case e4 => k_is)
    (case k4 => k_is)
    (case a5 => k_is)
    (case l5 => k_is)
    (case e5 => k_is)
    (case k5 => k_is)
    (case a6 => k_is)
    (case l6 => k_is)
    (case e6 => k_is)
    (case k6 => k_is)
    (case a7 => k_is)
    (case l7 => k_is)
    (case e7 => k_is)
    (case k7 => k_is)
    (case a8 => k_is)
    (case l8 => k_is)
    (case e8 => k_is)
    (case k8 => k_is)
    (case a9 => k_is)
    (case l9 => k_is)
    (case e9 => k_is)
    (case k9 => k_is)
    (case a10 => k_is)
    (case l10 => k_is)
    (case e10 => k_is)
    (case k10 => k_is)
    (case a11 => k_is)
    (case l11 => k_is)
    (case e11 => k_is)
    (case k11 => k_is)
    (case a12 => k_is)
    (case l12 => k_is)
    (case e12 => k_is)
    (case k12 => k_is)
    (case a13 => k_is)
    (case l13 => k_is)
    (case e13 => k_is)
    (case k13 => k_is)
    (case a14 => k_is)
    (case l14 => k_is)
    (case e14 => k_is)
    (case k14 => k_is)
    (case a15 => k_is)
    (case l15 => k_is)
    (case e15 => k_is)
    (case k15 => k_is)
    (case a16 => k_is)
    (case l16 => k_is)
    (case e16 => k_is)
    (case k16 => k_is)
    (case a17 => k_is)
    (case l17 => k_is)
    (case e17 => k_is)
    (case k17 => k_is)
    (case a18 => k_is)
    (case l18 => k_is)
    (case e18 => k_is)
    (case k18 => k_is)
    (case zz_len => k_is)
    (case zz_list => k_is)
    (case zz_range => k_is)
    (case gg_IDENTITY => k_is)
    (case gl_IDENTITY => k_is)
    (case gz_IDENTITY => decide +kernel)
    (case gv_IDENTITY => exact (.cons ⟨_, rfl⟩ (.cons ⟨_, rfl⟩ (.cons ⟨_, rfl⟩ (.cons ⟨_, rfl⟩ (.cons ⟨_, rfl⟩ (.cons ⟨_, rfl⟩ (.cons ⟨_, rfl⟩ (.cons ⟨_, rfl⟩ (.cons ⟨_, rfl⟩ (.nil)))))))))))
    (case gg_ODD_PRIMES => k_is)
    (case gl_ODD_PRIMES => k_is)
    (case gz_ODD_PRIMES => decide +kernel)
    (case gv_ODD_PRIMES => exact (.cons ⟨_, rfl⟩ (.cons ⟨_, rfl⟩ (.cons ⟨_, rfl⟩ (.cons ⟨_, rfl⟩ (.cons ⟨_, rfl⟩ (.cons ⟨_, rfl⟩ (.cons ⟨_, rfl⟩ (.cons ⟨_, rfl⟩ (.cons ⟨_, rfl⟩ (.cons ⟨_, rfl⟩ (.nil))))))))))))
  case S =>
    intro K H xs a hO hwi hask hx
    exact Dn.last_sp hx (by rfl) (Pb.fixed_law a.1 a.2.1 (Pb.row9_of (Pb.in1 (Pb.in1 hwi).2).1))
#print axioms PySem.Challenge.cw_planebook_s14_fixed_holds
