import PyProof.Rows.All
import Wide.All
import OpenK.AllK
import Wide.FinOn
import PyProof.EqAt
import PyProof.EqKinds
import PyProof.TupleCall
import KE.BitLaws
import Open.SpecLaws
import KE.OsHead
import KE.OsGo
import PySem.Challenge.RW_planebook_s15_conic
section
set_option Elab.async false
set_option linter.all false
set_option maxRecDepth 100000
namespace L2
open PySem PySem.Spec PyProof.Rows
abbrev Key := Sum Int Str
def keyIs : Key → Value → Bool
  | .inl k, v => Value.isInt k v
  | .inr x, v => Value.isStrOf x v
def keyH (w : World) : Key → Int
  | .inl k => hashInt k
  | .inr x => hashStr w x
theorem keyIs_shape : ∀ {k : Key} {v : Value}, keyIs k v = true → (∃ i t, k = Sum.inl i ∧ v = Value.int i t) ∨ (∃ x t, k = Sum.inr x ∧ v = Value.str x t)
  | .inl i, v, h => by
    obtain ⟨t, e⟩ := Value.isInt_shape (k := i) (v := v) h
    exact .inl ⟨i, t, rfl, e⟩
  | .inr x, v, h => by
    obtain ⟨t, e⟩ := Value.isStrOf_shape (x := x) (v := v) h
    exact .inr ⟨x, t, rfl, e⟩
theorem key_ll (a b : Int) : decide ((Sum.inl a : Key) = Sum.inl b) = (a == b) := by
  by_cases e : a = b
  · subst e; simp
  · have h : ¬ (Sum.inl a : Key) = Sum.inl b := fun q => e (Sum.inl.inj q)
    rw [decide_eq_false h]
    exact (beq_eq_false_iff_ne.mpr e).symm
theorem key_rr (a b : Str) : decide ((Sum.inr a : Key) = Sum.inr b) = decide (a = b) := by
  by_cases e : a = b
  · subst e; simp
  · have h : ¬ (Sum.inr a : Key) = Sum.inr b := fun q => e (Sum.inr.inj q)
    rw [decide_eq_false h, decide_eq_false e]
theorem key_lr (a : Int) (b : Str) : decide ((Sum.inl a : Key) = Sum.inr b) = false := decide_eq_false (fun q => nomatch q)
theorem key_rl (a : Str) (b : Int) : decide ((Sum.inr a : Key) = Sum.inl b) = false := decide_eq_false (fun q => nomatch q)
def mixKind (prog : Program) (w : World) : PySem.KeyKind prog w Key where
  is := keyIs
  hash := keyH w
  inj := fun v a b ha hb => by
    rcases keyIs_shape ha with ⟨i, t, rfl, rfl⟩ | ⟨x, t, rfl, rfl⟩
    · rcases keyIs_shape hb with ⟨j, u, rfl, e⟩ | ⟨y, u, rfl, e⟩
      · injection e with e1 _; rw [e1]
      · exact nomatch e
    · rcases keyIs_shape hb with ⟨j, u, rfl, e⟩ | ⟨y, u, rfl, e⟩
      · exact nomatch e
      · injection e with e1 _; rw [e1]
  byValue := fun k v h => by
    rcases keyIs_shape h with ⟨i, t, rfl, rfl⟩ | ⟨x, t, rfl, rfl⟩ <;> rfl
  pyHash := fun hv h => by
    rcases keyIs_shape hv with ⟨i, t, rfl, rfl⟩ | ⟨x, t, rfl, rfl⟩
    · exact wpAny_pyHash_int h
    · exact wpAny_pyHash_str h
  eqBool := fun hu hv h => by
    rcases keyIs_shape hu with ⟨i, t, rfl, rfl⟩ | ⟨x, t, rfl, rfl⟩
    · rcases keyIs_shape hv with ⟨j, u, rfl, rfl⟩ | ⟨y, u, rfl, rfl⟩
      · rw [key_ll] at h; exact wpAny_eqBool_int h
      · rw [key_lr] at h; exact SeqAt.EqAt.int_str i t y u _ _ _ _ h
    · rcases keyIs_shape hv with ⟨j, u, rfl, rfl⟩ | ⟨y, u, rfl, rfl⟩
      · rw [key_rl] at h; exact SeqAt.EqAt.str_int x t j u _ _ _ _ h
      · rw [key_rr] at h; exact wpAny_eqBool_str h
  «strs» := fun k x t v h => by
    rcases keyIs_shape h with ⟨i, u, rfl, e⟩ | ⟨y, u, rfl, e⟩
    · exact nomatch e
    · injection e with e1 _
      subst e1
      cases v <;> rfl
end L2
namespace L2
open PySem PySem.Spec PyProof.Rows
inductive V where
  | non | bl (b : Bool) | int (i : Int) | str (x : Str) | byt (b : Array UInt8) | flt (b : UInt64) | ref (a : Addr) | ty (n : String)
  deriving DecidableEq
def RelV : V → Value → Prop
  | .non, u => u = Value.none
  | .bl b, u => u = Value.bool b
  | .int i, u => ∃ t, u = Value.int i t
  | .str x, u => ∃ t, u = Value.str x t
  | .byt b, u => ∃ t, u = Value.bytes b t
  | .flt b, u => ∃ t, u = Value.float b t
  | .ref a, u => u = Value.ref a
  | .ty n, u => u = Value.type n
abbrev Vals : List V → List Value → Prop := Paired RelV
theorem Vals.length {xs : List V} {us : List Value} (r : Vals xs us) : xs.length = us.length := Paired.length r
theorem Vals.get : ∀ {xs : List V} {us : List Value} {i : Nat} {x : V}, Vals xs us → xs[i]? = some x → ∃ u, us[i]? = some u ∧ RelV x u
  | _, _, _, _, .nil, e => by simp at e
  | _, _, 0, _, .cons r _, e => by simp at e; subst e; exact ⟨_, rfl, r⟩
  | _, _, i + 1, x, .cons _ t, e => by
    obtain ⟨u, h1, h2⟩ := Vals.get (i := i) (x := x) t (by simpa using e)
    exact ⟨u, by simpa using h1, h2⟩
theorem Vals.set {x : V} {u : Value} (r : RelV x u) : ∀ {xs : List V} {us : List Value} (i : Nat), Vals xs us → Vals (xs.set i x) (us.set i u)
  | _, _, _, .nil => .nil
  | _, _, 0, .cons _ t => .cons r t
  | _, _, i + 1, .cons q t => .cons q (Vals.set r i t)
theorem Vals.append : ∀ {xs ys : List V} {us ws : List Value}, Vals xs us → Vals ys ws → Vals (xs ++ ys) (us ++ ws)
  | _, _, _, _, .nil, s => s
  | _, _, _, _, .cons r t, s => .cons r (Vals.append t s)
theorem Vals.take : ∀ {xs : List V} {us : List Value} (n : Nat), Vals xs us → Vals (xs.take n) (us.take n)
  | _, _, 0, _ => .nil
  | _, _, _ + 1, .nil => .nil
  | _, _, n + 1, .cons r t => .cons r (Vals.take n t)
theorem Vals.drop : ∀ {xs : List V} {us : List Value} (n : Nat), Vals xs us → Vals (xs.drop n) (us.drop n)
  | _, _, 0, r => r
  | _, _, _ + 1, .nil => .nil
  | _, _, n + 1, .cons _ t => Vals.drop n t
def RelO : Option V → Option Value → Prop
  | some v, some u => RelV v u
  | none, none => True
  | _, _ => False
def KV {κ : Type} : List (κ × V) → List (κ × Value) → Prop := Paired fun (p : κ × V) (q : κ × Value) => p.1 = q.1 ∧ RelV p.2 q.2
def kV : Key → V
  | .inl i => .int i
  | .inr x => .str x
inductive HO where
  | lst (xs : List V)
  | tup (xs : List V)
  | dK (kvs : List (Key × V)) | dT (kvs : List (List Key × V))
  | set (S : Int → Bool) (n : Nat)
  | ins (C dx : Addr) (fs : List (Str × V))
  | own (x : Addr)
  | xd (fs : List (Str × V))
  | met (f x : Addr)
  | rng (lo hi : Int)
  | frz (o : Obj) (u : HO)
  | tbl (ps : Array Value)
  | ext (φ : Heap → Prop)
abbrev Hp := Addr → Option HO
def upd (H : Hp) (a : Addr) (o : HO) : Hp := fun b => if b = a then some o else H b
theorem upd_same {H : Hp} {a : Addr} {o : HO} : upd H a o a = some o := by unfold upd; rw [if_pos rfl]
theorem upd_ne {H : Hp} {a b : Addr} {o : HO} (h : b ≠ a) : upd H a o b = H b := by unfold upd; rw [if_neg h]
theorem ne_of_none {H : Hp} {a b : Addr} {o : HO} (h : H a = some o) (h' : H b = none) : a ≠ b := by
  intro e; subst e; rw [h] at h'; cases h'
section
variable (P : Program) (w : World)
def ObjOk (H : Hp) (h : Heap) (a : Addr) : HO → Prop
  | .lst xs => xs.length ≤ sizeLine ∧ ∃ (its : List Value) (n : Nat), Vals xs its ∧ h.get? a = some { cls := .type "list", data := .seq its.toArray n }
  | .tup xs => xs.length ≤ sizeLine ∧ ∃ its : List Value, Vals xs its ∧ IsTup h a its.toArray
  | .dK kvs => kvs.length ≤ sizeLine ∧ (a == sysModules) = false ∧ ∃ vs, KV kvs vs ∧ h.DictOf (mixKind P w) a vs
  | .dT kvs => kvs.length ≤ sizeLine ∧ (a == sysModules) = false ∧ ∃ xs : List (List Key × Addr × Value),
      Paired (fun (p : List Key × V) (q : List Key × Addr × Value) => p.1 = q.1 ∧ H q.2.1 = some (.tup (p.1.map kV)) ∧ RelV p.2 q.2.2) kvs xs ∧
      ∃ o es ep, h.get? a = some o ∧ o.ExactDict ∧ o.data = .dict es ep ∧ es.toList = xs.map (entryOfKey (tupleKind (mixKind P w))) ∧ (xs.map (·.1)).Nodup
  | .set S n => h.SetOf (intKind P w) a S n
  | .ins C dx fs => H dx = some (.own a) ∧ fs.length ≤ 1000 ∧ dx ≠ a ∧ h.get? a = some (PySem.W.instObj C dx) ∧
      ∃ mA, h.Ns1 dx mA ∧ (∀ f, RelO (fs.lookup f) (mA f)) ∧ PySem.Within mA (fs.map (·.1))
  | .own _ => ∃ o, h.get? a = some o
  | .xd fs => ∃ mA, h.Ns1 a mA ∧ ∀ f, RelO (fs.lookup f) (mA f)
  | .rng lo hi => ∃ t u v, h.get? a = some { cls := .type "range", data := .fields #[.int lo t, .int hi u, .int 1 v] }
  | .frz o u => h.get? a = some o ∧ ObjOk H h a u
  | .tbl ps => h.get? a = some { cls := .none, data := .fields ps }
  | .met f x => h.get? a = some (PySem.W.methodObj (.ref f) (.ref x))
  | .ext φ => φ h ∧ (∃ o, h.get? a = some o) ∧ ∀ h1 h2 : Heap, φ h1 → (∀ o, h1.get? a = some o → h2.get? a = some o) → φ h2
def HOk (H : Hp) (h : Heap) : Prop := ∀ a o, H a = some o → ObjOk P w H h a o
end
section
variable {P : Program} {w : World} {H H' : Hp} {h h' : Heap} {a : Addr} {o : HO}
theorem ObjOk.lt (x : ObjOk P w H h a o) : a < h.objs.size := by
  cases o with
  | lst xs => obtain ⟨_, _, _, _, e⟩ := x; exact Heap.lt_size e
  | tup xs => obtain ⟨_, _, _, p⟩ := x; exact p.lt
  | dK kvs => obtain ⟨_, _, _, _, o, _, _, e, _⟩ := x; exact Heap.lt_size e
  | dT kvs => obtain ⟨_, _, _, _, o, _, _, e, _⟩ := x; exact Heap.lt_size e
  | set S n => obtain ⟨o, _, _, _, e, _⟩ := x; exact Heap.lt_size e
  | ins C dx fs => obtain ⟨_, _, _, e, _⟩ := x; exact Heap.lt_size e
  | own y => obtain ⟨_, e⟩ := x; exact Heap.lt_size e
  | xd fs => obtain ⟨_, ⟨_, _, _, e, _⟩, _⟩ := x; exact Heap.lt_size e
  | rng lo hi => obtain ⟨_, _, _, e⟩ := x; exact Heap.lt_size e
  | frz ob u => obtain ⟨e, _⟩ := x; exact Heap.lt_size e
  | tbl ps => exact Heap.lt_size (show h.get? a = some _ from x)
  | met f y => exact Heap.lt_size (show h.get? a = some _ from x)
  | ext φ => obtain ⟨_, ⟨_, e⟩, _⟩ := x; exact Heap.lt_size e
theorem Paired.mapP {α β : Type} {F G : α → β → Prop} : ∀ {l₁ : List α} {l₂ : List β}, Paired F l₁ l₂ → (∀ a b, F a b → G a b) → Paired G l₁ l₂
  | _, _, .nil, _ => .nil
  | _, _, .cons r t, f => .cons (f _ _ r) (Paired.mapP t f)
theorem ObjOk.stay (x : ObjOk P w H h a o) (k : ∀ b u, (b = a ∨ H b = some (.own a)) → h.get? b = some u → h'.get? b = some u)
    (ho : ∀ b, H b = some (.own a) → H' b = some (.own a)) (ht : ∀ b xs, H b = some (.tup xs) → H' b = some (.tup xs)) : ObjOk P w H' h' a o := by
  induction o with
  | lst xs => obtain ⟨z, its, n, r, e⟩ := x; exact ⟨z, its, n, r, k _ _ (.inl rfl) e⟩
  | tup xs => obtain ⟨z, its, r, ob, e, c⟩ := x; exact ⟨z, its, r, ob, k _ _ (.inl rfl) e, c⟩
  | dK kvs => obtain ⟨z, y, vs, r, ob, es, ep, e, c⟩ := x; exact ⟨z, y, vs, r, ob, es, ep, k _ _ (.inl rfl) e, c⟩
  | dT kvs =>
    obtain ⟨z, y, xs, r, ob, es, ep, e, c⟩ := x
    exact ⟨z, y, xs, Paired.mapP r fun p q z => ⟨z.1, ht _ _ z.2.1, z.2.2⟩, ob, es, ep, k _ _ (.inl rfl) e, c⟩
  | set S n => obtain ⟨ob, es, ep, t, e, c⟩ := x; exact ⟨ob, es, ep, t, k _ _ (.inl rfl) e, c⟩
  | ins C dx fs =>
    obtain ⟨d, z, ne, e, mA, ⟨od, es, ep, e2, c⟩, r⟩ := x
    exact ⟨ho _ d, z, ne, k _ _ (.inl rfl) e, mA, ⟨od, es, ep, k _ _ (.inr d) e2, c⟩, r⟩
  | own y => obtain ⟨ob, e⟩ := x; exact ⟨ob, k _ _ (.inl rfl) e⟩
  | xd fs => obtain ⟨mA, ⟨od, es, ep, e, c⟩, r⟩ := x; exact ⟨mA, ⟨od, es, ep, k _ _ (.inl rfl) e, c⟩, r⟩
  | rng lo hi => obtain ⟨t, u, v, e⟩ := x; exact ⟨t, u, v, k _ _ (.inl rfl) e⟩
  | frz ob u ih => obtain ⟨e, q⟩ := x; exact ⟨k _ _ (.inl rfl) e, ih q⟩
  | tbl ps =>
    have e : h.get? a = some { cls := .none, data := .fields ps } := x
    show h'.get? a = some { cls := .none, data := .fields ps }
    exact k a _ (.inl rfl) e
  | met f y =>
    have e : h.get? a = some (PySem.W.methodObj (.ref f) (.ref y)) := x
    show h'.get? a = some (PySem.W.methodObj (.ref f) (.ref y))
    exact k a _ (.inl rfl) e
  | ext φ => obtain ⟨p, ⟨o, e⟩, st⟩ := x; exact ⟨st _ _ p fun o q => k _ _ (.inl rfl) q, ⟨o, k _ _ (.inl rfl) e⟩, st⟩
theorem HOk.lt (x : HOk P w H h) (e : H a = some o) : a < h.objs.size := (x a o e).lt
theorem HOk.fresh (x : HOk P w H h) (e : h.objs.size ≤ a) : H a = none := by
  cases q : H a with
  | none => rfl
  | some u => exact absurd (Nat.lt_of_lt_of_le (x.lt q) e) (Nat.lt_irrefl _)
theorem HOk.kept (x : HOk P w H h) (k : ∀ b u, h.get? b = some u → h'.get? b = some u) : HOk P w H h' := fun a o e =>
  (x a o e).stay (fun b u _ q => k b u q) (fun _ q => q) fun _ _ q => q
theorem HOk.laid (x : HOk P w H h) (k : ∀ b u, h.get? b = some u → h'.get? b = some u) (hp : h.objs.size ≤ a) (new : ObjOk P w (upd H a o) h' a o) : HOk P w (upd H a o) h' := fun b u e => by
  have hn := x.fresh hp
  by_cases hb : b = a
  · subst hb; rw [upd_same] at e; cases e; exact new
  · rw [upd_ne hb] at e
    exact (x b u e).stay (fun c v _ q => k c v q) (fun c q => by rw [upd_ne (ne_of_none q hn)]; exact q) fun c xs q => by rw [upd_ne (ne_of_none q hn)]; exact q
end
def Rd (H : Hp) (a : Addr) (u : HO) : Prop := H a = some u ∨ ∃ o, H a = some (.frz o u)
theorem Rd.of {H : Hp} {a : Addr} {u : HO} (h : H a = some u) : Rd H a u := .inl h
theorem Rd.ok {P : Program} {w : World} {H : Hp} {h : Heap} {a : Addr} {u : HO} (r : Rd H a u) (x : HOk P w H h) : ObjOk P w H h a u := by
  rcases r with r | ⟨o, r⟩
  · exact x a u r
  · obtain ⟨_, q⟩ := x a _ r
    exact q
def Mut : Option HO → Prop
  | some (.lst _) => True
  | some (.dK _) => True
  | some (.dT _) => True
  | some (.set _ _) => True
  | some (.ins _ _ _) => True
  | some (.ext _) => True
  | _ => False
section
variable {P : Program} {w : World} {H : Hp} {h h' : Heap} {x e : Addr} {o' : HO}
theorem HOk.write (ok : HOk P w H h) (mu : Mut (H x)) (he : e = x ∨ H e = some (.own x)) (k : ∀ b u, b ≠ e → h.get? b = some u → h'.get? b = some u) (heo : ∃ u, h'.get? e = some u)
    (new : ObjOk P w (upd H x o') h' x o') : HOk P w (upd H x o') h' := fun b u q => by
  have nown : ∀ c y, H c = some (.own y) → c ≠ x := fun c y r z => by subst z; rw [r] at mu; exact mu
  have ntup : ∀ c xs, H c = some (.tup xs) → c ≠ x := fun c xs r z => by subst z; rw [r] at mu; exact mu
  by_cases hb : b = x
  · subst hb; rw [upd_same] at q; cases q; exact new
  · rw [upd_ne hb] at q
    by_cases hbe : b = e
    · have q' : H b = some (.own x) := by
        rcases he with z | z
        · exact absurd (hbe.trans z) hb
        · rw [hbe]; exact z
      rw [q] at q'; cases q'
      obtain ⟨v, hv⟩ := heo
      exact ⟨v, by rw [hbe]; exact hv⟩
    · refine (ok b u q).stay (fun c v hc r => k c v ?_ r) (fun c r => by rw [upd_ne (nown c b r)]; exact r) fun c xs r => by rw [upd_ne (ntup c xs r)]; exact r
      rcases hc with rfl | hc
      · exact hbe
      · rintro rfl
        rcases he with z | z
        · exact nown c b hc z
        · rw [hc] at z; cases z; exact hb rfl
end
structure Un (fs ex : List Addr) (H H' : Hp) (h h' : Heap) : Prop where
  keep : ∀ b o, h.get? b = some o → H b = none → b ∉ fs → b ∉ ex → h'.get? b = some o
  slot : ∀ b o, h.get? b = some o → H b = none → b ∈ fs → b ∉ ex → ∃ sl, h'.get? b = some { o with slots := sl }
  free : ∀ b o, h.get? b = some o → H b = none → b ∉ ex → H' b = none
  there : ∀ b o, h.get? b = some o → b ∉ ex → ∃ o', h'.get? b = some o'
  tups : ∀ b xs, H b = some (.tup xs) → H' b = some (.tup xs)
  frzs : ∀ b o u, H b = some (.frz o u) → H' b = some (.frz o u)
  tbls : ∀ b ps, H b = some (.tbl ps) → ∃ more, H' b = some (.tbl (ps ++ more))
section
variable {fs fs' ex ex' : List Addr} {H H1 H2 : Hp} {h h1 h2 h' : Heap} {a x e : Addr} {o : HO}
theorem Un.any (u : Un fs ex H H1 h h1) {b : Addr} {ob : Obj} (q : h.get? b = some ob) (n : H b = none) (hx : b ∉ ex) : ∃ sl, h1.get? b = some { ob with slots := sl } := by
  by_cases hb : b ∈ fs
  · exact u.slot b ob q n hb hx
  · exact ⟨ob.slots, u.keep b ob q n hb hx⟩
theorem Un.trans (a : Un fs ex H H1 h h1) (b : Un fs ex H1 H2 h1 h2) : Un fs ex H H2 h h2 where
  keep := fun c ob q n hc hx => b.keep c ob (a.keep c ob q n hc hx) (a.free c ob q n hx) hc hx
  slot := fun c ob q n hc hx => by
    obtain ⟨sl, e1⟩ := a.slot c ob q n hc hx
    obtain ⟨sl', e2⟩ := b.slot c _ e1 (a.free c ob q n hx) hc hx
    exact ⟨sl', e2⟩
  free := fun c ob q n hx => by
    obtain ⟨o', e1⟩ := a.there c ob q hx
    exact b.free c o' e1 (a.free c ob q n hx) hx
  there := fun c ob q hx => by
    obtain ⟨o', e1⟩ := a.there c ob q hx
    exact b.there c o' e1 hx
  tups := fun c xs q => b.tups c xs (a.tups c xs q)
  frzs := fun c ob xs q => b.frzs c ob xs (a.frzs c ob xs q)
  tbls := fun c ps q => by
    obtain ⟨m1, e1⟩ := a.tbls c ps q
    obtain ⟨m2, e2⟩ := b.tbls c _ e1
    exact ⟨m1 ++ m2, by rw [e2, Array.append_assoc]⟩
theorem Un.kept (k : ∀ b u, h.get? b = some u → h'.get? b = some u) : Un fs ex H H h h' :=
  ⟨fun b ob q _ _ _ => k b ob q, fun b ob q _ _ _ => ⟨ob.slots, k b ob q⟩, fun _ _ _ n _ => n, fun b ob q _ => ⟨ob, k b ob q⟩, fun _ _ q => q, fun _ _ _ q => q, fun _ ps q => ⟨#[], by rw [q]; simp⟩⟩
theorem Un.refl : Un fs ex H H h h := Un.kept fun _ _ q => q
theorem Un.laid (k : ∀ b u, h.get? b = some u → h'.get? b = some u) (hp : h.objs.size ≤ a) (hn : H a = none) : Un fs ex H (upd H a o) h h' where
  keep := fun b u q _ _ _ => k b u q
  slot := fun b u q _ _ _ => ⟨u.slots, k b u q⟩
  free := fun b u q n _ => by rw [upd_ne (Nat.ne_of_lt (Nat.lt_of_lt_of_le (Heap.lt_size q) hp))]; exact n
  there := fun b u q _ => ⟨u, k b u q⟩
  tups := fun b xs q => by rw [upd_ne (ne_of_none q hn)]; exact q
  frzs := fun b u xs q => by rw [upd_ne (ne_of_none q hn)]; exact q
  tbls := fun b ps q => ⟨#[], by rw [upd_ne (ne_of_none q hn), q]; simp⟩
theorem Un.write (mu : Mut (H x)) (he : e = x ∨ H e = some (.own x)) (k : ∀ b u, b ≠ e → h.get? b = some u → h'.get? b = some u) (heo : ∃ u, h'.get? e = some u) : Un fs ex H (upd H x o) h h' := by
  have hx : ∀ b, H b = none → b ≠ x := fun b n z => by subst z; rw [n] at mu; exact mu
  have hb : ∀ b, H b = none → b ≠ e := fun b n z => by
    subst z
    rcases he with r | r
    · exact hx b n r
    · rw [n] at r; cases r
  have hm : ∀ b u, H b = some u → ¬ Mut (some u) → b ≠ x := fun b u q nm z => by subst z; rw [q] at mu; exact nm mu
  refine ⟨fun b u q n _ _ => k b u (hb b n) q, fun b u q n _ _ => ⟨u.slots, k b u (hb b n) q⟩, fun b u q n _ => by rw [upd_ne (hx b n)]; exact n, fun b u q _ => ?_,
    fun b xs q => by rw [upd_ne (hm b _ q fun z => z)]; exact q, fun b u xs q => by rw [upd_ne (hm b _ q fun z => z)]; exact q, fun b ps q => ⟨#[], by rw [upd_ne (hm b _ q fun z => z), q]; simp⟩⟩
  by_cases hbe : b = e
  · subst hbe; exact heo
  · exact ⟨u, k b u hbe q⟩
theorem Un.mono (u : Un fs ex H H1 h h1) (hs : ∀ b ∈ fs, b ∈ fs') (hx : ∀ b ∈ ex, b ∈ ex') : Un fs' ex' H H1 h h1 :=
  ⟨fun b ob q n hb he => u.keep b ob q n (fun z => hb (hs b z)) fun z => he (hx b z), fun _ _ q n _ he => u.any q n fun z => he (hx _ z), fun b ob q n he => u.free b ob q n fun z => he (hx b z), fun b ob q he => u.there b ob q fun z => he (hx b z), u.tups, u.frzs, u.tbls⟩
end
def trk (h : Heap) (H : Hp) : List Addr := (List.range h.objs.size).filter fun a => (H a).isSome
def hidT (h : Heap) (H : Hp) : Heap := PySem.W.hideAll h (trk h H)
theorem hidT_size (h : Heap) (H : Hp) : (hidT h H).objs.size = h.objs.size := PySem.W.hideAll_size _ _
theorem hidT_get {h : Heap} {H : Hp} {b : Addr} {o : Obj} (e : h.get? b = some o) (n : H b = none) : (hidT h H).get? b = some o :=
  PySem.W.hideAll_get _ e fun hm => by
    have q : (H b).isSome = true := (List.mem_filter.mp hm).2
    rw [n] at q; simp at q
theorem of_hidT {h : Heap} {H : Hp} {b : Addr} {o : Obj} (e : (hidT h H).get? b = some o) : h.get? b = some o ∧ H b = none := by
  have e' : h.get? b = some o := PySem.W.of_hideAll (trk h H) e
  refine ⟨e', ?_⟩
  cases q : H b with
  | none => rfl
  | some x =>
    have hm : b ∈ trk h H := List.mem_filter.mpr ⟨List.mem_range.mpr (Heap.lt_size e'), by simp [q]⟩
    have z : (hidT h H).get? b = none := PySem.W.hideAll_none (trk h H) hm
    rw [z] at e; cases e
def allNews (g h : Heap) (L : Addr) : List (Addr × Obj) := (List.range h.objs.size).filterMap fun a => if a = L ∨ (g.get? a).isSome = true then none else (h.get? a).map fun o => (a, o)
def rest (g h : Heap) (L d : Addr) : List (Addr × Obj) := (allNews g h L).filter fun p => decide (p.1 ≠ d)
end L2
namespace L2
open PySem PySem.Spec PyProof.Rows
structure Mod (K : PySem.W.Frag) (mg : Str → Option Value) (base : Heap) : Prop where
  kin : K.In base
  glob : base.Ns mainGlobals mg
  blt : ∃ mb, base.Ns builtinsNs mb ∧ ∀ x : Str, x ≠ "__name__" → mb x = bootBuiltins x
  nolimit : base.NoLimit
structure Cx where
  prog : Program
  w : World
  K : PySem.W.Frag
  mg : Str → Option Value
  base : Heap
  A : Around
  N : List Str
  s_0 : Shared
  H_0 : Hp
  env : Env
  outer : List Env
  stack : List Env
  ex : List Addr
  fn : Str → Bool
  calm : Bool
  pn : List (Addr × Obj)
  xe : Value → Shared → Prop
def frs (l : List Env) : List Addr := l.filterMap (·.frame)
abbrev Cx.fs (X : Cx) : List Addr := frs X.outer
def Vis (sc : Scope) (x : Str) : Prop := sc.names.lookup x = some .local ∨ sc.names.lookup x = some .cell ∨ sc.names.lookup x = some .free
def Loc (sc : Scope) (x : Str) : Prop := sc.names.lookup x = some .local ∨ sc.names.lookup x = some .cell
def Look (env : Env) (h : Heap) (m : Str → Option Value) (x : Str) (u : Value) : Prop :=
  (env.kindOf x = some .local ∧ m x = some u) ∨ ((env.kindOf x = some .cell ∨ env.kindOf x = some .free) ∧ ∃ c, env.cells.lookup x = some c ∧ h.IsCell c (some u))
structure Cx.Ok (X : Cx) : Prop where
  mod : Mod X.K X.mg X.base
  kind : X.env.scope.kind = .function
  glob : X.env.globals = mainGlobals
  blt : X.env.builtins = builtinsNs
  above : X.s_0.heap.objs.size ≤ X.env.locals
  inj : ∀ x y c, X.env.cells.lookup x = some c → X.env.cells.lookup y = some c → x = y
  has : ∀ x, (X.env.kindOf x = some .cell ∨ X.env.kindOf x = some .free) → ∃ c, X.env.cells.lookup x = some c
  cab : ∀ x c, X.fn x = true → X.env.cells.lookup x = some c → X.s_0.heap.objs.size ≤ c
  hd : X.calm = true → X.A.handled = none
  frames : X.A.frames = some X.stack
  stk : X.stack = X.outer ∨ (X.stack = X.env :: X.outer ∧ X.env.frame = some X.env.locals)
  exf : ∀ b ∈ X.ex, b ≠ X.env.locals ∧ ∀ x c, X.env.cells.lookup x = some c → c ≠ b
  bs : ∀ b o, X.base.get? b = some o → X.s_0.heap.get? b = some o ∧ X.H_0 b = none
  bsz : X.base.objs.size ≤ X.s_0.heap.objs.size
  noex : ∀ b o, X.base.get? b = some o → b ∉ X.ex
  exfs : ∀ b ∈ X.ex, b ∉ X.fs
  funs : X.s_0.heap.FunFrames X.base X.outer
  frf : ∀ b ∈ X.fs, X.H_0 b = none
structure Inv (X : Cx) (pins : List (Addr × Obj)) (σ : List (Option V)) (H : Hp) (s : Shared) : Prop where
  ok : X.Ok
  os : s.os = X.s_0.os
  bare : AllBare s.gens
  base : Un X.fs X.ex X.H_0 H X.s_0.heap s.heap
  loc : ∃ m, s.heap.Ns X.env.locals m ∧ ∀ (i : Nat) (x : Str) (v : V), X.N[i]? = some x → σ[i]? = some (some v) → Vis X.env.scope x → ∃ u, RelV v u ∧ Look X.env s.heap m x u
  cell : ∀ x c, X.env.cells.lookup x = some c → ∃ v, s.heap.IsCell c v
  free : H X.env.locals = none
  freeC : ∀ x c, X.env.cells.lookup x = some c → H c = none
  pin : ∀ p ∈ X.pn ++ pins, s.heap.get? p.1 = some p.2 ∧ H p.1 = none ∧ p.1 ≠ X.env.locals ∧ p.1 ∉ X.fs ∧ ∀ v, p.2.data ≠ .cell v
  hok : HOk X.prog X.w H s.heap
  len : σ.length = X.N.length
section
variable {X : Cx} {pins : List (Addr × Obj)} {σ : List (Option V)} {H H' : Hp} {s : Shared} {h' : Heap}
theorem Cx.Ok.nofr (ok : X.Ok) {b : Addr} {o : Obj} (e : X.base.get? b = some o) : b ∉ X.fs := fun hb => by
  have := (ok.funs.mem hb).1
  rw [e] at this; cases this
theorem Inv.bs (I : Inv X pins σ H s) : ∀ b o, X.base.get? b = some o → s.heap.get? b = some o ∧ H b = none := fun b o e =>
  ⟨I.base.keep b o (I.ok.bs b o e).1 (I.ok.bs b o e).2 (I.ok.nofr e) (I.ok.noex b o e), I.base.free b o (I.ok.bs b o e).1 (I.ok.bs b o e).2 (I.ok.noex b o e)⟩
theorem Inv.bk (I : Inv X pins σ H s) : ∀ b o, X.base.get? b = some o → s.heap.get? b = some o := fun b o e => (I.bs b o e).1
theorem Inv.mod (I : Inv X pins σ H s) : Mod X.K X.mg X.base := I.ok.mod
theorem Inv.kIn (I : Inv X pins σ H s) : X.K.In s.heap := I.ok.mod.kin.keeps I.bk
theorem Inv.nolimit (I : Inv X pins σ H s) : s.heap.NoLimit := I.ok.mod.nolimit.keeps I.bk
theorem Inv.lt (I : Inv X pins σ H s) : X.env.locals < s.heap.objs.size := let ⟨_, hn, _⟩ := I.loc; hn.lt
theorem Inv.sz (I : Inv X pins σ H s) : X.s_0.heap.objs.size ≤ s.heap.objs.size := Nat.le_trans I.ok.above (Nat.le_of_lt I.lt)
theorem Inv.nofs (I : Inv X pins σ H s) {a : Addr} (h : s.heap.objs.size ≤ a) : a ∉ X.fs := fun hb => by
  obtain ⟨_, o, ho, _⟩ := I.ok.funs.mem hb
  exact absurd (Nat.lt_of_lt_of_le (Heap.lt_size ho) (Nat.le_trans I.sz h)) (Nat.lt_irrefl _)
theorem Inv.cne (I : Inv X pins σ H s) : ∀ x c, X.env.cells.lookup x = some c → c ≠ X.env.locals := fun x c e z => by
  obtain ⟨v, o, ho, hd⟩ := I.cell x c e
  obtain ⟨m, ⟨o', es, ep, ho', hd', _⟩, _⟩ := I.loc
  rw [z, ho'] at ho; cases ho; rw [hd'] at hd; cases hd
theorem Inv.funs (I : Inv X pins σ H s) : s.heap.FunFrames X.base X.outer := by
  have all : ∀ (l : List Env), (∀ b ∈ frs l, b ∈ X.fs) → X.s_0.heap.FunFrames X.base l → s.heap.FunFrames X.base l := by
    intro l
    induction l with
    | nil => intro _ _; trivial
    | cons env r ih =>
      intro hs hl
      obtain ⟨hk, ⟨L, o, hf, hn, ho, hd⟩, hr⟩ := hl
      have hL : L ∈ X.fs := hs L (by unfold frs; rw [List.filterMap_cons, hf]; exact List.mem_cons_self)
      obtain ⟨sl, e⟩ := I.base.slot L o ho (I.ok.frf L hL) hL fun z => I.ok.exfs L z hL
      exact ⟨hk, ⟨L, _, hf, hn, e, hd⟩, ih (fun b hb => hs b (by unfold frs; rw [List.filterMap_cons, hf]; exact List.mem_cons_of_mem _ hb)) hr⟩
  exact all X.outer (fun _ hb => hb) I.ok.funs
theorem Inv.stack (I : Inv X pins σ H s) : s.heap.FunFrames X.base X.stack := by
  rcases I.ok.stk with e | ⟨e, hf⟩
  · rw [e]; exact I.funs
  · rw [e]
    obtain ⟨m, hn, _⟩ := I.loc
    refine .cons (by rw [I.ok.kind]; decide) hf hn ?_ I.funs
    exact Heap.get?_none_of_le (Nat.le_trans I.ok.bsz I.ok.above)
theorem Inv.stkSub (I : Inv X pins σ H s) : ∀ b ∈ frs X.stack, b ∈ X.env.locals :: X.fs := fun b hb => by
  rcases I.ok.stk with e | ⟨e, hf⟩
  · rw [e] at hb; exact List.mem_cons_of_mem _ hb
  · rw [e] at hb
    unfold frs at hb
    rw [List.filterMap_cons, hf] at hb
    exact hb
theorem Inv.stkFree (I : Inv X pins σ H s) : ∀ b ∈ frs X.stack, H b = none := fun b hb => by
  rcases List.mem_cons.mp (I.stkSub b hb) with e | hb
  · rw [e]; exact I.free
  · obtain ⟨_, o, ho, _⟩ := I.ok.funs.mem hb
    exact I.base.free b o ho (I.ok.frf b hb) fun z => I.ok.exfs b z hb
theorem Inv.step {g' : Array GenState} {t' : Nat} {d' : Drawn} {ch : List Addr} (I : Inv X pins σ H s)
    (hch : ∀ b ∈ ch, (b ∈ X.ex ∨ X.s_0.heap.objs.size ≤ b) ∧ b ≠ X.env.locals ∧ (∀ x c, X.env.cells.lookup x = some c → c ≠ b) ∧ ∀ p ∈ X.pn ++ pins, p.1 ≠ b)
    (keep : ∀ b o, b ≠ X.env.locals → b ∉ X.fs → b ∉ ch → s.heap.get? b = some o → H b = none → h'.get? b = some o)
    (slot : ∀ b o, b ≠ X.env.locals → b ∈ X.fs → b ∉ ch → s.heap.get? b = some o → H b = none → ∃ sl, h'.get? b = some { o with slots := sl }) (free : ∀ b o, b ∉ ch → s.heap.get? b = some o → H b = none → H' b = none)
    (there : ∀ b o, b ∉ ch → s.heap.get? b = some o → ∃ o', h'.get? b = some o')
    (tups : ∀ b xs, H b = some (.tup xs) → H' b = some (.tup xs)) (frzs : ∀ b o u, H b = some (.frz o u) → H' b = some (.frz o u)) (tbls : ∀ b ps, H b = some (.tbl ps) → ∃ more, H' b = some (.tbl (ps ++ more)))
    (ns : ∀ m, s.heap.Ns X.env.locals m → h'.Ns X.env.locals m) (hok : HOk X.prog X.w H' h') (hg : AllBare g') :
    Inv X pins σ H' { s with heap := h', gens := g', drawn := d', toks := t' } := by
  have neL : ∀ b o, X.s_0.heap.get? b = some o → b ≠ X.env.locals := fun b o e => Nat.ne_of_lt (Nat.lt_of_lt_of_le (Heap.lt_size e) I.ok.above)
  have neC : ∀ b o, X.s_0.heap.get? b = some o → b ∉ X.ex → b ∉ ch := fun b o e hx hb => by
    rcases (hch b hb).1 with z | z
    · exact hx z
    · exact absurd (Nat.lt_of_lt_of_le (Heap.lt_size e) z) (Nat.lt_irrefl _)
  have cellK : ∀ x c, X.env.cells.lookup x = some c → ∀ v, s.heap.IsCell c v → h'.IsCell c v := fun x c e v ⟨o, ho, hd⟩ => by
    have nch : c ∉ ch := fun z => (hch c z).2.2.1 x c e rfl
    by_cases hc : c ∈ X.fs
    · obtain ⟨sl, q⟩ := slot c o (I.cne x c e) hc nch ho (I.freeC x c e)
      exact ⟨_, q, hd⟩
    · exact ⟨o, keep c o (I.cne x c e) hc nch ho (I.freeC x c e), hd⟩
  refine ⟨I.ok, I.os, hg, ⟨fun b o e n hb hx => ?_, fun b o e n hb hx => ?_, fun b o e n hx => ?_, fun b o e hx => ?_, fun b xs e => tups b xs (I.base.tups b xs e), fun b o xs e => frzs b o xs (I.base.frzs b o xs e), fun b ps e => ?_⟩, ?_, fun x c e => ?_, ?_, fun x c e => ?_, fun p hp => ?_, hok, I.len⟩
  · exact keep b o (neL b o e) hb (neC b o e hx) (I.base.keep b o e n hb hx) (I.base.free b o e n hx)
  · obtain ⟨sl, e1⟩ := I.base.slot b o e n hb hx
    obtain ⟨sl', e2⟩ := slot b _ (neL b o e) hb (neC b o e hx) e1 (I.base.free b o e n hx)
    exact ⟨sl', e2⟩
  · obtain ⟨o', e1⟩ := I.base.there b o e hx
    exact free b o' (neC b o e hx) e1 (I.base.free b o e n hx)
  · obtain ⟨o', e1⟩ := I.base.there b o e hx
    exact there b o' (neC b o e hx) e1
  · obtain ⟨m1, e1⟩ := I.base.tbls b ps e
    obtain ⟨m2, e2⟩ := tbls b _ e1
    exact ⟨m1 ++ m2, by rw [e2, Array.append_assoc]⟩
  · obtain ⟨m, hn, hl⟩ := I.loc
    refine ⟨m, ns m hn, fun i x v e1 e2 e3 => ?_⟩
    obtain ⟨u, r, l⟩ := hl i x v e1 e2 e3
    refine ⟨u, r, ?_⟩
    rcases l with l | ⟨k, c, e, z⟩
    · exact .inl l
    · exact .inr ⟨k, c, e, cellK x c e _ z⟩
  · obtain ⟨v, z⟩ := I.cell x c e
    exact ⟨v, cellK x c e v z⟩
  · obtain ⟨m, ⟨o, _, _, ho, _⟩, _⟩ := I.loc
    exact free _ o (fun z => (hch _ z).2.1 rfl) ho I.free
  · obtain ⟨v, o, ho, hd⟩ := I.cell x c e
    exact free c o (fun z => (hch c z).2.2.1 x c e rfl) ho (I.freeC x c e)
  · obtain ⟨e, n, ne, nf, d⟩ := I.pin p hp
    have nch : p.1 ∉ ch := fun z => (hch p.1 z).2.2.2 p hp rfl
    exact ⟨keep p.1 p.2 ne nf nch e n, free p.1 p.2 nch e n, ne, nf, d⟩
theorem Inv.un {t' : Nat} (I : Inv X pins σ H s) (u : Un X.fs [] H H' s.heap h') (hok : HOk X.prog X.w H' h') : Inv X pins σ H' { s with heap := h', toks := t' } := by
  obtain ⟨m, ⟨o, es, ep, ho, r⟩, _⟩ := id I.loc
  obtain ⟨sl, hL⟩ := u.any ho I.free (by simp)
  exact I.step (g' := s.gens) (d' := s.drawn) (ch := []) (fun _ z => nomatch z) (fun b o _ hb _ e n => u.keep b o e n hb (by simp)) (fun b o _ hb _ e n => u.slot b o e n hb (by simp)) (fun b o _ e n => u.free b o e n (by simp)) (fun b o _ e => u.there b o e (by simp)) u.tups u.frzs u.tbls (fun m' hm => by
    obtain ⟨o', es', ep', ho', r'⟩ := hm
    rw [ho] at ho'; cases ho'
    exact ⟨_, es', ep', hL, r'⟩) hok I.bare
theorem Inv.call {g' : Array GenState} {t' : Nat} {d' : Drawn} {ch : List Addr} (I : Inv X pins σ H s) (u : Un (frs X.stack) ch H H' s.heap h') (hok : HOk X.prog X.w H' h') (hg : AllBare g')
    (hch : ∀ b ∈ ch, (b ∈ X.ex ∨ X.s_0.heap.objs.size ≤ b) ∧ b ≠ X.env.locals ∧ (∀ x c, X.env.cells.lookup x = some c → c ≠ b) ∧ ∀ p ∈ X.pn ++ pins, p.1 ≠ b) :
    Inv X pins σ H' { s with heap := h', gens := g', drawn := d', toks := t' } := by
  obtain ⟨m, ⟨o, es, ep, ho, r⟩, _⟩ := id I.loc
  obtain ⟨sl, hL⟩ := u.any ho I.free fun z => (hch _ z).2.1 rfl
  exact I.step (ch := ch) hch (fun b o hL hb hc e n => u.keep b o e n (fun z => (List.mem_cons.mp (I.stkSub b z)).elim hL hb) hc) (fun b o _ _ hc e n => u.any e n hc) (fun b o hc e n => u.free b o e n hc) (fun b o hc e => u.there b o e hc) u.tups u.frzs u.tbls (fun m' hm => by
    obtain ⟨o', es', ep', ho', r'⟩ := hm
    rw [ho] at ho'; cases ho'
    exact ⟨_, es', ep', hL, r'⟩) hok hg
theorem Inv.turned {t' : Nat} {it : Addr} (I : Inv X pins σ H s) (k : ∀ b o, b ≠ it → s.heap.get? b = some o → h'.get? b = some o) (hn : H it = none) (hL : it ≠ X.env.locals)
    (h1 : it ∈ X.ex ∨ X.s_0.heap.objs.size ≤ it) (h2 : ∀ x c, X.env.cells.lookup x = some c → c ≠ it) (h3 : ∀ p ∈ X.pn ++ pins, p.1 ≠ it) : Inv X pins σ H { s with heap := h', toks := t' } := by
  have nit : ∀ b u, H b = some u → b ≠ it := fun b u e z => by rw [z, hn] at e; cases e
  refine I.step (g' := s.gens) (d' := s.drawn) (ch := [it]) (fun b hb => ?_) (fun b o _ _ hc e _ => k b o (fun z => hc (by simp [z])) e) (fun b o _ _ hc e _ => ⟨o.slots, k b o (fun z => hc (by simp [z])) e⟩) (fun _ _ _ _ n => n)
    (fun b o hc e => ⟨o, k b o (fun z => hc (by simp [z])) e⟩) (fun _ _ e => e) (fun _ _ _ e => e) (fun b ps e => ⟨#[], by rw [e]; simp⟩) (fun m hm => ?_) (fun b u e => ?_) I.bare
  · have e : b = it := by simpa using hb
    subst e
    exact ⟨h1, hL, h2, h3⟩
  · obtain ⟨o, es, ep, ho, r⟩ := hm
    exact ⟨o, es, ep, k _ o (Ne.symm hL) ho, r⟩
  · refine (I.hok b u e).stay (fun c v hc q => k c v ?_ q) (fun _ q => q) fun _ _ q => q
    rcases hc with z | z
    · rw [z]; exact nit b u e
    · exact nit c _ z
theorem Inv.tok (I : Inv X pins σ H s) (t : Nat) : Inv X pins σ H { s with toks := t } := I.un (h' := s.heap) (t' := t) Un.refl I.hok
theorem Inv.kept {t' : Nat} (I : Inv X pins σ H s) (k : ∀ b u, s.heap.get? b = some u → h'.get? b = some u) : Inv X pins σ H { s with heap := h', toks := t' } := I.un (Un.kept k) (I.hok.kept k)
theorem Inv.laid {a : Addr} {o : HO} {t' : Nat} (I : Inv X pins σ H s) (k : ∀ b u, s.heap.get? b = some u → h'.get? b = some u) (hp : s.heap.objs.size ≤ a) (new : ObjOk X.prog X.w (upd H a o) h' a o) :
    Inv X pins σ (upd H a o) { s with heap := h', toks := t' } := I.un (Un.laid k hp (I.hok.fresh hp)) (I.hok.laid k hp new)
theorem Inv.write {x e : Addr} {o : HO} {t' : Nat} (I : Inv X pins σ H s) (mu : Mut (H x)) (he : e = x ∨ H e = some (.own x)) (k : ∀ b u, b ≠ e → s.heap.get? b = some u → h'.get? b = some u) (heo : ∃ u, h'.get? e = some u)
    (new : ObjOk X.prog X.w (upd H x o) h' x o) : Inv X pins σ (upd H x o) { s with heap := h', toks := t' } := I.un (Un.write mu he k heo) (I.hok.write mu he k heo new)
theorem Inv.weak {σ' : List (Option V)} (I : Inv X pins σ H s) (hl : σ'.length = σ.length) (w : ∀ (i : Nat) v, σ'[i]? = some (some v) → σ[i]? = some (some v)) : Inv X pins σ' H s :=
  ⟨I.ok, I.os, I.bare, I.base, let ⟨m, hn, hl'⟩ := I.loc; ⟨m, hn, fun i x v e1 e2 e3 => hl' i x v e1 (w i v e2) e3⟩, I.cell, I.free, I.freeC, I.pin, I.hok, hl.trans I.len⟩
theorem Inv.pins_of {pins' : List (Addr × Obj)} (I : Inv X pins σ H s) (h : ∀ p ∈ pins', s.heap.get? p.1 = some p.2 ∧ H p.1 = none ∧ p.1 ≠ X.env.locals ∧ p.1 ∉ X.fs ∧ ∀ v, p.2.data ≠ .cell v) : Inv X pins' σ H s :=
  ⟨I.ok, I.os, I.bare, I.base, I.loc, I.cell, I.free, I.freeC, fun p hp => (List.mem_append.mp hp).elim (fun z => I.pin p (List.mem_append_left _ z)) (h p), I.hok, I.len⟩
theorem nodup_ix {N : List Str} (hN : N.Nodup) {i j : Nat} {x : Str} (a : N[i]? = some x) (b : N[j]? = some x) : i = j := by
  obtain ⟨h1, e1⟩ := List.getElem?_eq_some_iff.mp a
  obtain ⟨h2, e2⟩ := List.getElem?_eq_some_iff.mp b
  exact (List.getElem_inj hN).mp (e1.trans e2.symm)
theorem store_ok2 {M : Model} {A : Around} {E : Value → Shared → Prop} {i : Nat} {x : Str} {v : V} {u : Value} {Q : Unit → Shared → Prop} (I : Inv X pins σ H s) (hN : X.N.Nodup) (hi : X.N[i]? = some x) (hx : Loc X.env.scope x) (r : RelV v u)
    (h : ∀ s', Inv X pins (σ.set i (some v)) H s' → (∃ a, Heap.SameBut a s.heap s'.heap ∧ (a = X.env.locals ∨ X.env.cells.lookup x = some a)) → Q () s') (hf : X.fn x = true ∨ X.env.scope.names.lookup x = some .local := by first | exact .inl rfl | exact .inr rfl | assumption) : wpAny M A (storeName X.env x u) Q E s := by
  obtain ⟨m, hn, hl⟩ := id I.loc
  have hcls : (X.env.scope.kind == .class || (X.env.scope.kind == .module && X.env.locals != X.env.globals)) = false := by rw [I.ok.kind]; rfl
  have hiσ : i < σ.length := by rw [I.len]; exact (List.getElem?_eq_some_iff.mp hi).1
  have cne := I.cne
  have tracked : ∀ {a : Addr} {h' : Heap}, (∃ o, s.heap.get? a = some o ∧ H a = none) → Heap.SameBut a s.heap h' → HOk X.prog X.w H h' := fun {a h'} ha hs b ob e => by
    obtain ⟨_, _, hfree⟩ := ha
    refine (I.hok b ob e).stay (fun c w' hc q => (hs.2 c ?_).trans q) (fun _ q => q) fun _ _ q => q
    rintro rfl
    rcases hc with rfl | hc
    · rw [hfree] at e; cases e
    · rw [hfree] at hc; cases hc
  rcases hx with hk | hk
  · refine wpAny_storeName_local hk hn (fun h' hn' hs => ?_) hcls
    obtain ⟨oL, _, _, hoL, _⟩ := id hn
    refine h _ ⟨I.ok, I.os, I.bare, ⟨fun b o e n hb hx => ?_, fun b o e n hb hx => ?_, I.base.free, fun b o e hx => ?_, I.base.tups, I.base.frzs, I.base.tbls⟩, ⟨_, hn', fun j y v' e1 e2 e3 => ?_⟩, fun y c e => ?_, I.free, I.freeC, fun p hp => ?_, tracked ⟨oL, hoL, I.free⟩ hs, by simpa using I.len⟩ ⟨_, hs, .inl rfl⟩
    · exact (hs.2 b (Nat.ne_of_lt (Nat.lt_of_lt_of_le (Heap.lt_size e) I.ok.above))).trans (I.base.keep b o e n hb hx)
    · obtain ⟨sl, e1⟩ := I.base.slot b o e n hb hx
      exact ⟨sl, (hs.2 b (Nat.ne_of_lt (Nat.lt_of_lt_of_le (Heap.lt_size e) I.ok.above))).trans e1⟩
    · obtain ⟨o', e1⟩ := I.base.there b o e hx
      exact ⟨o', (hs.2 b (Nat.ne_of_lt (Nat.lt_of_lt_of_le (Heap.lt_size e) I.ok.above))).trans e1⟩
    · by_cases hj : j = i
      · subst hj
        rw [hi] at e1; cases e1
        rw [List.getElem?_set_self hiσ] at e2
        cases e2
        exact ⟨u, r, .inl ⟨hk, by simp⟩⟩
      · rw [List.getElem?_set_ne (Ne.symm hj)] at e2
        obtain ⟨u', r', q⟩ := hl j y v' e1 e2 e3
        refine ⟨u', r', ?_⟩
        rcases q with ⟨k, e⟩ | ⟨k, c, e, z⟩
        · refine .inl ⟨k, ?_⟩
          have : y ≠ x := fun e => hj (nodup_ix hN e1 (e ▸ hi))
          simp [this, e]
        · exact .inr ⟨k, c, e, z.sameBut hs (cne y c e)⟩
    · obtain ⟨w', z⟩ := I.cell y c e
      exact ⟨w', z.sameBut hs (cne y c e)⟩
    · obtain ⟨e, n, ne, nf, d⟩ := I.pin p hp
      exact ⟨(hs.2 p.1 ne).trans e, n, ne, nf, d⟩
  · have hfn : X.fn x = true := by
      rcases hf with z | z
      · exact z
      · rw [z] at hk; cases hk
    obtain ⟨c, hc⟩ := I.ok.has x (.inl hk)
    obtain ⟨w', z⟩ := I.cell x c hc
    refine wpAny_storeName_cell I.ok.kind hk hc z (fun h' hc' hs => ?_)
    obtain ⟨oc, hoc, hocd⟩ := id z
    refine h { s with heap := h' } ⟨I.ok, I.os, I.bare, ⟨fun b o e n hb hx => ?_, fun b o e n hb hx => ?_, I.base.free, fun b o e hx => ?_, I.base.tups, I.base.frzs, I.base.tbls⟩, ⟨m, hn.sameBut hs (Ne.symm (cne x c hc)), fun j y v' e1 e2 e3 => ?_⟩, fun y c' e => ?_, I.free, I.freeC, fun p hp => ?_, tracked ⟨oc, hoc, I.freeC x c hc⟩ hs, by simpa using I.len⟩ ⟨c, hs, .inr hc⟩
    · exact (hs.2 b (Nat.ne_of_lt (Nat.lt_of_lt_of_le (Heap.lt_size e) (I.ok.cab x c hfn hc)))).trans (I.base.keep b o e n hb hx)
    · obtain ⟨sl, e1⟩ := I.base.slot b o e n hb hx
      exact ⟨sl, (hs.2 b (Nat.ne_of_lt (Nat.lt_of_lt_of_le (Heap.lt_size e) (I.ok.cab x c hfn hc)))).trans e1⟩
    · obtain ⟨o', e1⟩ := I.base.there b o e hx
      exact ⟨o', (hs.2 b (Nat.ne_of_lt (Nat.lt_of_lt_of_le (Heap.lt_size e) (I.ok.cab x c hfn hc)))).trans e1⟩
    · by_cases hj : j = i
      · subst hj
        rw [hi] at e1; cases e1
        rw [List.getElem?_set_self hiσ] at e2
        cases e2
        exact ⟨u, r, .inr ⟨.inl hk, c, hc, hc'⟩⟩
      · rw [List.getElem?_set_ne (Ne.symm hj)] at e2
        obtain ⟨u', r', q⟩ := hl j y v' e1 e2 e3
        refine ⟨u', r', ?_⟩
        rcases q with q | ⟨k, c', e, z'⟩
        · exact .inl q
        · refine .inr ⟨k, c', e, z'.sameBut hs ?_⟩
          rintro rfl
          exact hj (nodup_ix hN e1 (I.ok.inj _ _ _ e hc ▸ hi))
    · by_cases hcc : c' = c
      · subst hcc; exact ⟨_, hc'⟩
      · obtain ⟨w2, z2⟩ := I.cell y c' e
        exact ⟨w2, z2.sameBut hs hcc⟩
    · obtain ⟨e, n, ne, nf, d⟩ := I.pin p hp
      refine ⟨(hs.2 p.1 ?_).trans e, n, ne, nf, d⟩
      intro q
      rw [q, hoc] at e
      have q' : oc = p.2 := Option.some.inj e
      exact d w' (by rw [← q']; exact hocd)
theorem store_ok {M : Model} {A : Around} {E : Value → Shared → Prop} {i : Nat} {x : Str} {v : V} {u : Value} {Q : Unit → Shared → Prop} (I : Inv X pins σ H s) (hN : X.N.Nodup) (hi : X.N[i]? = some x) (hx : Loc X.env.scope x) (r : RelV v u)
    (h : ∀ s', Inv X pins (σ.set i (some v)) H s' → Q () s') (hf : X.fn x = true ∨ X.env.scope.names.lookup x = some .local := by first | exact .inl rfl | exact .inr rfl | assumption) : wpAny M A (storeName X.env x u) Q E s :=
  store_ok2 I hN hi hx r (fun s' I' _ => h s' I') hf
theorem Inv.call' {s' : Shared} {ch : List Addr} (I : Inv X pins σ H s) (ho : s'.os = s.os) (u : Un (frs X.stack) ch H H' s.heap s'.heap) (hok : HOk X.prog X.w H' s'.heap) (hg : AllBare s'.gens)
    (hch : ∀ b ∈ ch, (b ∈ X.ex ∨ X.s_0.heap.objs.size ≤ b) ∧ b ≠ X.env.locals ∧ (∀ x c, X.env.cells.lookup x = some c → c ≠ b) ∧ ∀ p ∈ X.pn ++ pins, p.1 ≠ b) : Inv X pins σ H' s' := by
  obtain ⟨h', g', d', t', o'⟩ := s'
  have e : o' = s.os := ho
  subst e
  exact I.call (g' := g') (t' := t') (d' := d') u hok hg hch
end
abbrev XK := Value → Option Addr → Hp → Prop
abbrev St := List (Option V)
abbrev VK := V → Hp → Prop
abbrev TE := St → Hp → VK → Prop
abbrev TT := St → Hp → (Bool → Hp → Prop) → Prop
abbrev TA := St → Hp → (List V → Hp → Prop) → Prop
structure Ends where
  nx : St → Hp → Prop
  rt : VK
  bk : St → Hp → Prop := fun _ _ => False
  ct : St → Hp → Prop := fun _ _ => False
abbrev TS := Ends → St → Hp → Prop
def EP (X : Cx) (pins : List (Addr × Obj)) (σ : St) (Q : VK) (u : Value) (s' : Shared) : Prop := ∃ v H', Inv X pins σ H' s' ∧ RelV v u ∧ Q v H'
def TP (X : Cx) (pins : List (Addr × Obj)) (σ : St) (Q : Bool → Hp → Prop) (b : Bool) (s' : Shared) : Prop := ∃ H', Inv X pins σ H' s' ∧ Q b H'
def AP (X : Cx) (pins : List (Addr × Obj)) (σ : St) (Q : List V → Hp → Prop) (us : List Value) (s' : Shared) : Prop := ∃ vs H', Inv X pins σ H' s' ∧ Vals vs us ∧ Q vs H'
def SP (X : Cx) (pins : List (Addr × Obj)) (D : Ends) (f : Flow) (s' : Shared) : Prop :=
  match f with
  | .next => ∃ σ' H', Inv X pins σ' H' s' ∧ D.nx σ' H'
  | .brk => ∃ σ' H', Inv X pins σ' H' s' ∧ D.bk σ' H'
  | .cont => ∃ σ' H', Inv X pins σ' H' s' ∧ D.ct σ' H'
  | .ret u => ∃ v σ' H', Inv X pins σ' H' s' ∧ RelV v u ∧ D.rt v H'
def PE (X : Cx) (e : Expr) (t : TE) : Prop :=
  ∀ (pins : List (Addr × Obj)) (s : Shared) (σ : St) (H : Hp) (Q : VK), Inv X pins σ H s → t σ H Q → wpAny (model X.prog X.w) X.A (eval e X.env) (EP X pins σ Q) X.xe s
def PT (X : Cx) (e : Expr) (t : TT) : Prop :=
  ∀ (pins : List (Addr × Obj)) (s : Shared) (σ : St) (H : Hp) (Q : Bool → Hp → Prop), Inv X pins σ H s → t σ H Q → wpAny (model X.prog X.w) X.A (isTrue e X.env (eval e X.env)) (TP X pins σ Q) X.xe s
def PW (X : Cx) (e : Expr) (t : TT) : Prop :=
  ∀ (whole : Sem Value) (pins : List (Addr × Obj)) (s : Shared) (σ : St) (H : Hp) (Q : Bool → Hp → Prop), Inv X pins σ H s → t σ H Q → wpAny (model X.prog X.w) X.A (isTrue e X.env whole) (TP X pins σ Q) X.xe s
theorem PW.pt {X : Cx} {e : Expr} {t : TT} (h : PW X e t) : PT X e t := h _
def PA (X : Cx) (es : List Expr) (t : TA) : Prop :=
  ∀ (pos : Pos) (pins : List (Addr × Obj)) (s : Shared) (σ : St) (H : Hp) (Q : List V → Hp → Prop), Inv X pins σ H s → t σ H Q → wpAny (model X.prog X.w) X.A (spliced (backTo pos (starEach es X.env))) (AP X pins σ Q) X.xe s
def PS (X : Cx) (st : Stmt) (t : TS) : Prop :=
  ∀ (pins : List (Addr × Obj)) (s : Shared) (σ : St) (H : Hp) (D : Ends), Inv X pins σ H s → t D σ H → wpAny (model X.prog X.w) X.A (exec st X.env) (SP X pins D) X.xe s
def PSs (X : Cx) (st : List Stmt) (t : TS) : Prop :=
  ∀ (pins : List (Addr × Obj)) (s : Shared) (σ : St) (H : Hp) (D : Ends), Inv X pins σ H s → t D σ H → wpAny (model X.prog X.w) X.A (execs st X.env) (SP X pins D) X.xe s
theorem thn {α : Type} {t : Sem α} {Q Q' : α → Shared → Prop} {M : Model} {A : Around} {E : Value → Shared → Prop} {s : Shared} (h : wpAny M A t Q E s) (hQ : ∀ a s, Q a s → Q' a s) : wpAny M A t Q' E s := wpAny_mono h hQ fun _ _ x => x
end L2
namespace L2
open PySem PySem.Spec PyProof.Rows
section
variable {X : Cx}
def tVar (i : Nat) : TE := fun σ H Q => ∃ v, σ[i]? = some (some v) ∧ Q v H
def tC (v : V) : TE := fun _ H Q => Q v H
theorem pe_var {i : Nat} {x : Str} {pos : Pos} (hN : X.N[i]? = some x) (hv : Vis X.env.scope x) (hd : (x == ("__debug__" : Str)) = false := by decide) (hcd : (x == ("__classdict__" : Str)) = false := by decide) : PE X (.Name x pos) (tVar i) := by
  intro pins s σ H Q I h
  obtain ⟨v, e, h⟩ := h
  obtain ⟨m, hn, hl⟩ := I.loc
  obtain ⟨u, r, l⟩ := hl i x v hN e hv
  have fin : EP X pins σ Q u s := ⟨v, H, I, r, h⟩
  rcases l with ⟨hk, hm⟩ | ⟨hk, c, hc, hcell⟩
  · exact wpAny_Name (wpAny_loadName_local I.ok.kind hk hn hm fin) hd
  · rcases hk with hk | hk
    · exact wpAny_Name (wpAny_loadName_cell I.ok.kind hk hc hcell fin) hd
    · exact wpAny_Name (wpAny_loadName_free I.ok.kind hk hc hcell fin hcd) hd
theorem pe_int {i j pos} : PE X (.Constant (.int i) j pos) (tC (.int i)) := fun _ _ _ H _ I h => wpAny_Constant_int ⟨.int i, H, I.tok _, ⟨_, rfl⟩, h⟩
def Gl (X : Cx) (x : Str) : Prop := X.env.kindOf x = some .globalImplicit
theorem ld_glob {E : Value → Shared → Prop} {pins : List (Addr × Obj)} {s : Shared} {σ : St} {H : Hp} {x : Str} {u : Value} {pos : Pos} {Q : Value → Shared → Prop} (I : Inv X pins σ H s) (hg : Gl X x) (hm : X.mg x = some u) (h : Q u s)
    (hd : (x == ("__debug__" : Str)) = false := by decide) : wpAny (model X.prog X.w) X.A (eval (.Name x pos) X.env) Q E s :=
  Calls.Name_function_global I.ok.kind hg (Calls.loadGlobal_global (by rw [I.ok.glob]; exact I.mod.glob.keeps I.bk) hm h) hd
theorem ld_blt {E : Value → Shared → Prop} {pins : List (Addr × Obj)} {s : Shared} {σ : St} {H : Hp} {x : Str} {u : Value} {pos : Pos} {Q : Value → Shared → Prop} (I : Inv X pins σ H s) (hg : Gl X x) (hm : X.mg x = none) (hv : bootBuiltins x = some u) (h : Q u s)
    (hn : x ≠ "__name__" := by decide) (hd : (x == ("__debug__" : Str)) = false := by decide) : wpAny (model X.prog X.w) X.A (eval (.Name x pos) X.env) Q E s := by
  obtain ⟨mb, h1, h2⟩ := I.mod.blt
  exact Calls.Name_function_global I.ok.kind hg (Calls.loadGlobal_builtin (by rw [I.ok.glob]; exact I.mod.glob.keeps I.bk) hm (by rw [I.ok.blt]; exact h1.keeps I.bk) ((h2 x hn).trans hv) h) hd
theorem pe_glob {x : Str} {v : V} {u : Value} {pos : Pos} (hg : Gl X x) (hm : X.mg x = some u) (r : RelV v u) (hd : (x == ("__debug__" : Str)) = false := by decide) : PE X (.Name x pos) (tC v) :=
  fun _ _ _ H _ I h => ld_glob I hg hm ⟨v, H, I, r, h⟩ hd
variable {a b : Expr} {ta tb : TE} {pos : Pos}
def tB (t : TE) : TT := fun σ H Q => t σ H fun x H1 => ∃ c, x = .bl c ∧ Q c H1
theorem pt_val {e : Expr} {t : TE} (h : PE X e t) (he : ∀ whole, isTrue e X.env whole = (do let v ← whole; standAt e.pos; holding [v] (truthy v)) := by intro _; rfl) : PT X e (tB t) := by
  intro pins s σ H Q I hw
  refine isTrue_plain (thn (h pins s σ H _ I hw) fun v s1 ⟨x, H1, I1, r1, q1⟩ => ?_) (he _)
  obtain ⟨d, rfl, q⟩ := q1
  cases r1
  exact wpAny_truthy_bool ⟨H1, I1, q⟩
variable {tA tB' : TT} {rest : List Expr}
def tAnd (t u : TT) : TT := fun σ H Q => t σ H fun c H1 => if c = true then u σ H1 Q else Q false H1
def tNot (t : TT) : TT := fun σ H Q => t σ H fun c H1 => Q (!c) H1
theorem pw_and1 (ha : PT X a tA) : PW X (.BoolOp .And [a] pos) tA := by
  intro wh pins s σ H Q I h
  refine isTrue_and (thn (ha pins s σ H Q I h) fun c s1 e => ?_)
  cases c with
  | true => exact isTrue_and_nil e
  | false => exact e
theorem pw_and (ha : PT X a tA) (hb : PW X (.BoolOp .And (b :: rest) pos) tB') : PW X (.BoolOp .And (a :: b :: rest) pos) (tAnd tA tB') := by
  intro wh pins s σ H Q I h
  refine isTrue_and (thn (ha pins s σ H _ I h) fun c s1 ⟨H1, I1, q1⟩ => ?_)
  cases c with
  | true => exact hb wh pins s1 σ H1 Q I1 q1
  | false => exact ⟨H1, I1, q1⟩
theorem pt_not (ha : PT X a tA) : PT X (.UnaryOp .Not a pos) (tNot tA) := by
  intro pins s σ H Q I h
  exact isTrue_not (ha pins s σ H (fun c H1 => Q (!c) H1) I h)
def tAndV (ta tb : TE) : TE := fun σ H Q => ta σ H fun x H1 => ∃ c, x = .bl c ∧ if c = true then tb σ H1 Q else Q (.bl false) H1
theorem pe_one {op} {t : TE} (h : PE X a t) : PE X (.BoolOp op [a] pos) t := fun pins s σ H Q I hw => BoolOp_one (h pins s σ H Q I hw)
theorem pe_and (ha : PE X a ta) (hb : PE X (.BoolOp .And (b :: rest) pos) tb) : PE X (.BoolOp .And (a :: b :: rest) pos) (tAndV ta tb) := by
  intro pins s σ H Q I h
  refine BoolOp_and (thn (ha pins s σ H _ I h) fun v s1 ⟨x, H1, I1, r1, q1⟩ => ?_)
  obtain ⟨c, rfl, q1⟩ := q1
  cases r1
  refine wpAny_truthy_bool ?_
  cases c with
  | true => exact hb pins s1 σ H1 Q I1 q1
  | false => exact ⟨.bl false, H1, I1, rfl, q1⟩
end
end L2
namespace L2
open PySem PySem.Spec PyProof.Rows
def SqL (K : PySem.W.Frag) (H : Hp) (a : Addr) (xs : List V) : Prop :=
  Rd H a (.lst xs) ∨
    ∃ (o : Obj) (its : Array Value) (n : Nat), K.lookup a = some o ∧ o.cls = .type "list" ∧ o.dict = none ∧ o.data = .seq its n ∧ its.size ≤ sizeLine ∧ Vals xs its.toList
def SqT (K : PySem.W.Frag) (H : Hp) (a : Addr) (xs : List V) : Prop :=
  Rd H a (.tup xs) ∨
    ∃ (o : Obj) (its : Array Value) (n : Nat), K.lookup a = some o ∧ o.cls = .type "tuple" ∧ o.data = .seq its n ∧ its.size ≤ sizeLine ∧ Vals xs its.toList
def absV : Value → Option V
  | .none => some .non
  | .bool b => some (.bl b)
  | .int i _ => some (.int i)
  | .str x _ => some (.str x)
  | .bytes b _ => some (.byt b)
  | .float b _ => some (.flt b)
  | .ref a => some (.ref a)
  | .type n => some (.ty n)
  | _ => none
theorem RelV.abs {x : V} {u : Value} (r : RelV x u) : absV u = some x := by
  cases x with
  | non => cases r; rfl
  | bl _ => cases r; rfl
  | int _ => obtain ⟨t, rfl⟩ := r; rfl
  | str _ => obtain ⟨t, rfl⟩ := r; rfl
  | byt _ => obtain ⟨t, rfl⟩ := r; rfl
  | flt _ => obtain ⟨t, rfl⟩ := r; rfl
  | ref _ => cases r; rfl
  | ty _ => cases r; rfl
theorem RelV.inj {x y : V} {u : Value} (r : RelV x u) (q : RelV y u) : x = y := Option.some.inj (r.abs.symm.trans q.abs)
theorem Vals.inj : ∀ {xs ys : List V} {us : List Value}, Vals xs us → Vals ys us → xs = ys
  | _, _, _, .nil, .nil => rfl
  | _, _, _, .cons r t, .cons r' t' => by rw [r.inj r', Vals.inj t t']
section
variable {X : Cx} {pins : List (Addr × Obj)} {σ : St} {H : Hp} {s : Shared} {a : Addr} {xs ys : List V}
theorem SqL.of {K : PySem.W.Frag} (h : H a = some (.lst xs)) : SqL K H a xs := .inl (.inl h)
theorem SqT.of {K : PySem.W.Frag} (h : H a = some (.tup xs)) : SqT K H a xs := .inl (.inl h)
theorem Inv.list (I : Inv X pins σ H s) (h : SqL X.K H a xs) : ∃ its : List Value, Vals xs its ∧ PlainL s.heap a its.toArray ∧ xs.length ≤ sizeLine := by
  rcases h with h | ⟨o, its, n, hk, hc, hd, hs, hz, r⟩
  · obtain ⟨z, its, n, r, e⟩ := h.ok I.hok
    exact ⟨its, r, ⟨_, n, e, rfl, rfl, rfl⟩, z⟩
  · refine ⟨its.toList, r, ⟨o, n, I.kIn a o hk, hc, hd, by simpa using hs⟩, ?_⟩
    have e := r.length
    simp only [Array.length_toList] at e
    omega
theorem Inv.tuple (I : Inv X pins σ H s) (h : SqT X.K H a xs) : ∃ its : List Value, Vals xs its ∧ IsTup s.heap a its.toArray ∧ xs.length ≤ sizeLine := by
  rcases h with h | ⟨o, its, n, hk, hc, hs, hz, r⟩
  · obtain ⟨z, its, r, p⟩ := h.ok I.hok
    exact ⟨its, r, p, z⟩
  · refine ⟨its.toList, r, ⟨o, I.kIn a o hk, hc, n, by simpa using hs⟩, ?_⟩
    have e := r.length
    simp only [Array.length_toList] at e
    omega
theorem Inv.list_inj (I : Inv X pins σ H s) (h : SqL X.K H a xs) (h' : SqL X.K H a ys) : xs = ys := by
  obtain ⟨its, r, ⟨o, n, e, _, _, d⟩, _⟩ := I.list h
  obtain ⟨its', r', ⟨o', n', e', _, _, d'⟩, _⟩ := I.list h'
  rw [e] at e'; cases e'
  rw [d] at d'
  injection d' with d1 _
  have : its = its' := by simpa using congrArg Array.toList d1
  subst this
  exact r.inj r'
end
abbrev Cx.wish (X : Cx) (E : Value → Shared → Prop) : Cx := { X with xe := E }
abbrev Cx.nox (X : Cx) : Cx := X.wish fun _ _ => False
theorem Cx.Ok.wish {X : Cx} (ok : X.Ok) (E : Value → Shared → Prop) : (X.wish E).Ok :=
  ⟨ok.mod, ok.kind, ok.glob, ok.blt, ok.above, ok.inj, ok.has, ok.cab, ok.hd, ok.frames, ok.stk, ok.exf, ok.bs, ok.bsz, ok.noex, ok.exfs, ok.funs, ok.frf⟩
theorem Cx.Ok.unwish {X : Cx} {E : Value → Shared → Prop} (ok : (X.wish E).Ok) : X.Ok :=
  ⟨ok.mod, ok.kind, ok.glob, ok.blt, ok.above, ok.inj, ok.has, ok.cab, ok.hd, ok.frames, ok.stk, ok.exf, ok.bs, ok.bsz, ok.noex, ok.exfs, ok.funs, ok.frf⟩
section
variable {X : Cx} {pins : List (Addr × Obj)} {σ : St} {H : Hp} {s : Shared} {E : Value → Shared → Prop}
theorem Inv.wish (I : Inv X pins σ H s) (E : Value → Shared → Prop) : Inv (X.wish E) pins σ H s := ⟨I.ok.wish E, I.os, I.bare, I.base, I.loc, I.cell, I.free, I.freeC, I.pin, I.hok, I.len⟩
theorem Inv.unwish (I : Inv (X.wish E) pins σ H s) : Inv X pins σ H s := ⟨I.ok.unwish, I.os, I.bare, I.base, I.loc, I.cell, I.free, I.freeC, I.pin, I.hok, I.len⟩
theorem SP.unwish {D : Ends} {f : Flow} {s' : Shared} (h : SP (X.wish E) pins D f s') : SP X pins D f s' := by
  cases f with
  | next => obtain ⟨σ', H', I, q⟩ := h; exact ⟨σ', H', I.unwish, q⟩
  | brk => obtain ⟨σ', H', I, q⟩ := h; exact ⟨σ', H', I.unwish, q⟩
  | cont => obtain ⟨σ', H', I, q⟩ := h; exact ⟨σ', H', I.unwish, q⟩
  | ret u => obtain ⟨v, σ', H', I, r, q⟩ := h; exact ⟨v, σ', H', I.unwish, r, q⟩
theorem PE.nox {e : Expr} {t : TE} (h : PE X.nox e t) : PE X e t := fun pins s σ H Q I hw =>
  wpAny_mono (h pins s σ H Q (I.wish _) hw) (fun _ _ ⟨v, H', I', r, q⟩ => ⟨v, H', I'.unwish, r, q⟩) fun _ _ z => False.elim z
theorem PT.nox {e : Expr} {t : TT} (h : PT X.nox e t) : PT X e t := fun pins s σ H Q I hw =>
  wpAny_mono (h pins s σ H Q (I.wish _) hw) (fun _ _ ⟨H', I', q⟩ => ⟨H', I'.unwish, q⟩) fun _ _ z => False.elim z
theorem PSs.nox {st : List Stmt} {t : TS} (h : PSs X.nox st t) : PSs X st t := fun pins s σ H D I hw =>
  wpAny_mono (h pins s σ H D (I.wish _) hw) (fun _ _ q => q.unwish) fun _ _ z => False.elim z
end
section
variable {X : Cx} {st : Stmt} {rest : List Stmt} {t u : TS} {e : Expr} {te : TE} {pos : Pos}
def tNext : TS := fun D σ H => D.nx σ H
def tSeq (t u : TS) : TS := fun D σ H => t { D with nx := u D } σ H
theorem pss_nil : PSs X [] tNext := fun _ _ σ H _ I h => wpAny_execs_nil ⟨σ, H, I, h⟩
theorem pss_cons (h1 : PS X st t) (h2 : PSs X rest u) : PSs X (st :: rest) (tSeq t u) := by
  intro pins s σ H D I h
  refine wpAny_execs_cons (thn (h1 pins s σ H { D with nx := u D } I h) fun f s1 q => ?_)
  cases f with
  | next =>
    obtain ⟨σ', H', I', q⟩ := q
    exact h2 pins s1 σ' H' D I' q
  | ret v => exact q
  | brk => exact q
  | cont => exact q
theorem pss_one (h1 : PS X st t) : PSs X [st] t := by
  intro pins s σ H D I h
  refine wpAny_execs_cons (thn (h1 pins s σ H D I h) fun f s1 q => ?_)
  cases f with
  | next => exact wpAny_execs_nil q
  | ret v => exact q
  | brk => exact q
  | cont => exact q
def tRet (te : TE) : TS := fun D σ H => te σ H D.rt
theorem ps_ret (he : PE X e te) : PS X (.Return (some e) pos) (tRet te) := by
  intro pins s σ H D I h
  exact wpAny_Return_some (thn (he pins s σ H _ I h) fun v s1 ⟨x, H1, I1, r1, q1⟩ => ⟨x, σ, H1, I1, r1, q1⟩)
def tIfS (c : TT) (t u : TS) : TS := fun D σ H => c σ H fun b H1 => if b = true then t D σ H1 else u D σ H1
theorem ps_if {c : Expr} {a b : List Stmt} {tc : TT} (hc : PT X c tc) (ha : PSs X a t) (hb : PSs X b u) : PS X (.If c a b pos) (tIfS tc t u) := by
  intro pins s σ H D I h
  refine wpAny_If (thn (hc pins s σ H _ I h) fun d s1 ⟨H1, I1, q1⟩ => ?_)
  cases d with
  | true => exact ha pins s1 σ H1 D I1 q1
  | false => exact hb pins s1 σ H1 D I1 q1
end
abbrev TG := V → St → Hp → (St → Hp → Prop) → Prop
def PG (X : Cx) (target : Expr) (t : TG) : Prop :=
  ∀ (pins : List (Addr × Obj)) (s : Shared) (σ : St) (H : Hp) (v : V) (u : Value) (Q : St → Hp → Prop), Inv X pins σ H s → RelV v u → t v σ H Q →
    wpAny (model X.prog X.w) X.A (assign target X.env u) (fun _ s' => ∃ σ' H', Inv X pins σ' H' s' ∧ Q σ' H') X.xe s
section
variable {X : Cx} {pos : Pos}
def gName (i : Nat) : TG := fun v σ H Q => Q (σ.set i (some v)) H
theorem pg_name {i : Nat} {x : Str} (hN : X.N.Nodup) (hi : X.N[i]? = some x) (hx : Loc X.env.scope x) (hf : X.fn x = true ∨ X.env.scope.names.lookup x = some .local := by first | exact .inl rfl | exact .inr rfl | assumption) : PG X (.Name x pos) (gName i) := by
  intro pins s σ H v u Q I r h
  exact wpAny_assign_Name (store_ok I hN hi hx r (fun s' I' => ⟨_, H, I', h⟩) hf)
def tAsg (te : TE) (g : TG) : TS := fun D σ H => te σ H fun x H1 => g x σ H1 D.nx
theorem ps_set {i : Nat} {x : Str} {e : Expr} {te : TE} {pos' : Pos} (hN : X.N.Nodup) (hi : X.N[i]? = some x) (hx : Loc X.env.scope x) (he : PE X e te) (hs : swapsWith e (some (.Name x pos')) pos.line X.env = pure false := by rfl) (hf : X.fn x = true ∨ X.env.scope.names.lookup x = some .local := by first | exact .inl rfl | exact .inr rfl | assumption) :
    PS X (.Assign [.Name x pos'] e pos) (tAsg te (gName i)) := by
  intro pins s σ H D I h
  refine wpAny_Assign_Name (thn (he pins s σ H _ I h) fun v s1 ⟨y, H1, I1, r1, q1⟩ => ?_) hs
  exact store_ok I1 hN hi hx r1 (fun s2 I2 => ⟨_, H1, I2, q1⟩) hf
end
section
variable {X : Cx} {pos : Pos}
end
structure It where
  go : Nat → Hp → Prop
  yld : Nat → Hp → V → Hp → Prop
  stop : Nat → Hp → Prop
def FpOk (X : Cx) (pins : List (Addr × Obj)) (H : Hp) (b : Addr) : Prop :=
  H b = none ∧ b ≠ X.env.locals ∧ b ∉ X.fs ∧ (b ∈ X.ex ∨ X.s_0.heap.objs.size ≤ b) ∧ (∀ x c, X.env.cells.lookup x = some c → c ≠ b) ∧ ∀ p ∈ X.pn ++ pins, p.1 ≠ b
theorem Inv.fpOk {X : Cx} {pins : List (Addr × Obj)} {σ : St} {H H' : Hp} {s : Shared} {b : Addr} (I : Inv X pins σ H s) (hb : s.heap.objs.size ≤ b) (hn : H' b = none) : FpOk X pins H' b := by
  refine ⟨hn, Nat.ne_of_gt (Nat.lt_of_lt_of_le I.lt hb), I.nofs hb, .inr (Nat.le_trans I.sz hb), fun x c e z => ?_, fun p hp z => ?_⟩
  · obtain ⟨v, q⟩ := I.cell x c e
    exact absurd (Nat.lt_of_lt_of_le q.lt (by rw [z]; exact hb)) (Nat.lt_irrefl _)
  · exact absurd (Nat.lt_of_lt_of_le (Heap.lt_size (I.pin p hp).1) (by rw [z]; exact hb)) (Nat.lt_irrefl _)
structure Turn (P : Program) (w : World) (K : PySem.W.Frag) (tg : Expr) (J : It) (fp : List Addr) (it : Addr) (tn : Nat → Heap → Prop) : Prop where
  mem : it ∈ fp
  obj : ∀ i h, tn i h → ∀ b ∈ fp, ∃ o, h.get? b = some o ∧ ∀ v, o.data ≠ .cell v
  keep : ∀ i h h', tn i h → (∀ b ∈ fp, ∀ o, h.get? b = some o → h'.get? b = some o) → tn i h'
  item : ∀ (X : Cx), X.prog = P → X.w = w → X.K = K → X.calm = true → ∀ (i : Nat) (pins : List (Addr × Obj)) (s : Shared) (σ : St) (H : Hp) (E : Value → Shared → Prop), Inv X pins σ H s → (∀ b ∈ fp, FpOk X pins H b) → tn i s.heap → J.go i H →
    wpAny (model P w) X.A (pyNext (.ref it)) (fun r s1 => ∃ u, r = some u ∧
      wpAny (model P w) X.A (letOwnedTupleGo tg (.ref it) u) (fun _ s2 => ∃ x H', Inv X pins σ H' s2 ∧ RelV x u ∧ J.yld i H x H' ∧ tn (i + 1) s2.heap ∧ ∀ b ∈ fp, H' b = none) E s1) E s
  done : ∀ (X : Cx), X.prog = P → X.w = w → X.K = K → X.calm = true → ∀ (i : Nat) (pins : List (Addr × Obj)) (s : Shared) (σ : St) (H : Hp) (E : Value → Shared → Prop), Inv X pins σ H s → (∀ b ∈ fp, FpOk X pins H b) → tn i s.heap → J.stop i H →
    wpAny (model P w) X.A (pyNext (.ref it)) (fun r s1 => r = none ∧ Inv X pins σ H s1) E s
  self : ∀ (A : Around) (i : Nat) (s : Shared) (Q : Value → Shared → Prop) (E : Value → Shared → Prop), tn i s.heap → Q (.ref it) s → wpAny (model P w) A (pyIter (.ref it)) Q E s
abbrev TI := St → Hp → (It → Hp → Prop) → Prop
def PIE (X : Cx) (pins : List (Addr × Obj)) (σ : St) (tg : Expr) (R : It → Hp → Prop) (itv : Value) (s2 : Shared) : Prop :=
  ∃ (it : Addr) (fp : List Addr) (tn : Nat → Heap → Prop) (J : It) (H' : Hp), itv = .ref it ∧ Inv X pins σ H' s2 ∧ Turn X.prog X.w X.K tg J fp it tn ∧ tn 0 s2.heap ∧ (∀ b ∈ fp, FpOk X pins H' b) ∧ R J H'
def PI (X : Cx) (tg iter : Expr) (wi : TI) : Prop :=
  ∀ (pins : List (Addr × Obj)) (s : Shared) (σ : St) (H : Hp) (R : It → Hp → Prop), Inv X pins σ H s → wi σ H R →
    wpAny (model X.prog X.w) X.A (eval iter X.env) (fun v s1 => wpAny (model X.prog X.w) X.A (pyIter v) (PIE X pins σ tg R) X.xe s1) X.xe s
theorem go_of {M : Model} {A : Around} {E : Value → Shared → Prop} {s : Shared} {tg : Expr} {it : Addr} {u : Value} {o : Obj} {n : String} {vs : Array Value} {Q : Unit → Shared → Prop} (ho : s.heap.get? it = some o) (hc : o.cls = .type n) (hd : o.data = .fields vs)
    (hn : ["enumerate", "zip", "dict_itemiterator", "dict_reverseitemiterator", "odict_iterator", "itertools.zip_longest", "itertools.pairwise"].contains n = false) (hQ : Q () s) : wpAny M A (letOwnedTupleGo tg (.ref it) u) Q E s := by
  unfold letOwnedTupleGo
  cases tg <;> first
    | exact wpAny_pure hQ
    | (cases u <;> first
        | exact wpAny_pure hQ
        | (refine wpAny_bind (wpAny_load ho ?_)
           rw [hc, hd]
           show wpAny M A (if (["enumerate", "zip", "dict_itemiterator", "dict_reverseitemiterator", "odict_iterator", "itertools.zip_longest", "itertools.pairwise"].contains n && vs[0]? == some (rawInt _)) = true then _ else _) Q E s
           rw [if_neg (by intro h; rw [hn, Bool.false_and] at h; cases h)]
           exact wpAny_pure hQ))
def Itl (K : PySem.W.Frag) (a : Addr) : It :=
  ⟨fun i H => ∃ xs x, SqL K H a xs ∧ xs[i]? = some x, fun i H x H' => H' = H ∧ ∀ xs, SqL K H a xs → xs[i]? = some x, fun i H => ∃ xs, SqL K H a xs ∧ xs.length ≤ i⟩
def Itr (lo : Int) (n : Nat) : It := ⟨fun i _ => i < n, fun i H x H' => H' = H ∧ x = .int (lo + i), fun i _ => n ≤ i⟩
theorem turn_list {P : Program} {w : World} {K : PySem.W.Frag} {tg : Expr} (a it : Addr) : Turn P w K tg (Itl K a) [it] it (fun i h => h.IsListIter it a i) where
  mem := by simp
  obj := fun i h st b hb => by
    have e : b = it := by simpa using hb
    subst e
    obtain ⟨o, e, c, d⟩ := st
    exact ⟨o, e, fun v z => by rw [d] at z; cases z⟩
  keep := fun i h h' st k => st.at fun o e => k it (by simp) o e
  item := by
    intro X hP hw hK hc i pins s σ H E I hf st hg
    subst hP hw hK
    obtain ⟨xs, x, hq, hx⟩ := hg
    obtain ⟨its, rv, p, hz⟩ := I.list hq
    obtain ⟨u, hu, ru⟩ := rv.get hx
    obtain ⟨f0, f1, f2, f3, f4, f5⟩ := hf it (by simp)
    refine wpAny_pyNext_list_item st p.isList (x := u) (by simpa using hu) fun h' st' sb => ?_
    have I1 : Inv X pins σ H { s with heap := h' } := I.turned (t' := s.toks) (fun b o hb e => (sb.2 b hb).trans e) f0 f1 f3 f4 f5
    obtain ⟨o, e, c, d⟩ := id st'
    exact ⟨u, rfl, go_of (s := { s with heap := h' }) e c d (by decide) ⟨x, H, I1, ru, ⟨rfl, fun ys hy => by rw [I.list_inj hy hq]; exact hx⟩, st', fun b hb => (hf b hb).1⟩⟩
  done := by
    intro X hP hw hK hc i pins s σ H E I hf st hg
    subst hP hw hK
    obtain ⟨xs, hq, hx⟩ := hg
    obtain ⟨its, rv, p, hz⟩ := I.list hq
    obtain ⟨f0, f1, f2, f3, f4, f5⟩ := hf it (by simp)
    have hl := rv.length
    exact wpAny_pyNext_list_end (I.ok.hd hc) st p.isList (by simp; omega) fun h' eb => ⟨rfl, I.turned (t' := s.toks) (fun b o hb e => eb b o hb e) f0 f1 f3 f4 f5⟩
  self := fun _ _ _ _ _ st h => wpAny_pyIter_listiter st h
theorem turn_range {P : Program} {w : World} {K : PySem.W.Frag} {tg : Expr} (it : Addr) (lo : Int) (n : Nat) : Turn P w K tg (Itr lo n) [it] it (fun i h => IsRangeIter h it (lo + (i : Nat) * 1) ((n : Int) - (i : Nat)) 1) where
  mem := by simp
  obj := fun i h st b hb => by
    have e : b = it := by simpa using hb
    subst e
    exact ⟨_, st, fun v z => by
      have z' : Data.fields _ = Data.cell v := z
      cases z'⟩
  keep := fun i h h' st k => k it (by simp) _ st
  item := by
    intro X hP hw hK hc i pins s σ H E I hf st hg
    subst hP hw hK
    obtain ⟨f0, f1, f2, f3, f4, f5⟩ := hf it (by simp)
    have W := Walks.range (prog := X.prog) (w := X.w) (I.ok.hd hc) it lo 1 n
    refine W.item i s _ _ hg st fun v h' tk hv st' kk => ?_
    obtain ⟨t, rfl⟩ := hv
    have I1 : Inv X pins σ H { s with heap := h', toks := tk } := I.turned (fun b o hb e => kk b o (by simpa using hb) e) f0 f1 f3 f4 f5
    refine ⟨_, rfl, go_of (s := { s with heap := h', toks := tk }) (n := "range_iterator") st' rfl rfl (by decide) ⟨.int (lo + i), H, I1, ⟨t, ?_⟩, ⟨rfl, rfl⟩, st', fun b hb => (hf b hb).1⟩⟩
    rw [Int.mul_one]
  done := by
    intro X hP hw hK hc i pins s σ H E I hf st hg
    subst hP hw hK
    obtain ⟨f0, f1, f2, f3, f4, f5⟩ := hf it (by simp)
    exact wpAny_pyNext_range_end (I.ok.hd hc) st (by have : n ≤ i := hg; omega) fun h' eb => ⟨rfl, I.turned (t' := s.toks) (fun b o hb e => eb b o hb e) f0 f1 f3 f4 f5⟩
  self := fun _ _ _ _ _ st h => wpAny_pyIter_rangeiter st h
end L2
namespace L2
open PySem PySem.Spec PyProof.Rows
section
variable {X : Cx} {tg : Expr}
def iList (K : PySem.W.Frag) (tl : TE) : TI := fun σ H R => tl σ H fun x H1 => ∃ a, x = .ref a ∧ (∃ xs, SqL K H1 a xs) ∧ R (Itl K a) H1
theorem pi_list {l : Expr} {tl : TE} (hl : PE X l tl) : PI X tg l (iList X.K tl) := by
  intro pins s σ H R I h
  refine thn (hl pins s σ H _ I h) fun v s1 ⟨x, H1, I1, r1, q1⟩ => ?_
  obtain ⟨a, e, ⟨xs, hq⟩, q⟩ := q1
  subst e
  cases r1
  obtain ⟨its, rv, p, hz⟩ := I1.list hq
  refine wpAny_pyIter_list p.isList ?_
  refine ⟨s1.heap.objs.size, [s1.heap.objs.size], _, _, H1, rfl, I1.kept (t' := s1.toks) fun b o e => Heap.get?_push_of_some _ e, turn_list a _, ⟨_, Heap.get?_push_size _ rfl, rfl, rfl⟩, fun b hb => ?_, q⟩
  have e : b = s1.heap.objs.size := by simpa using hb
  subst e
  exact I1.fpOk (Nat.le_refl _) (I1.hok.fresh (Nat.le_refl _))
theorem range_it {pins : List (Addr × Obj)} {σ : St} {H : Hp} {s : Shared} {R : It → Hp → Prop} {E : Value → Shared → Prop} {lo hi : Int} {t u v : Tok} {tk : Nat} (I : Inv X pins σ H s) (h1 : -(2 ^ 62) ≤ lo) (h2 : lo < 2 ^ 62) (h3 : -(2 ^ 62) ≤ hi) (h4 : hi < 2 ^ 62)
    (q : R (Itr lo (hi - lo).toNat) H) : wpAny (model X.prog X.w) X.A (pyIter (.ref s.heap.objs.size)) (PIE X pins σ tg R) E { s with heap := s.heap.push { cls := .type "range", data := .fields #[.int lo t, .int hi u, .int 1 v] }, toks := tk } := by
  refine wpAny_pyIter_range (IsRange.new ..) (small_one h1 h2 h3 h4) ?_
  have I1 : Inv X pins σ H { s with heap := s.heap.push { cls := .type "range", data := .fields #[.int lo t, .int hi u, .int 1 v] }, toks := tk } := I.kept fun b o e => Heap.get?_push_of_some _ e
  refine ⟨(s.heap.push { cls := .type "range", data := .fields #[.int lo t, .int hi u, .int 1 v] }).objs.size, [(s.heap.push { cls := .type "range", data := .fields #[.int lo t, .int hi u, .int 1 v] }).objs.size], _, _, H, rfl,
    I1.kept (t' := tk) fun b o e => Heap.get?_push_of_some _ e, turn_range _ lo (hi - lo).toNat, ?_, fun b hb => ?_, q⟩
  · have e1 : lo + ((0 : Nat) : Int) * 1 = lo := by simp
    have e2 : (((hi - lo).toNat : Nat) : Int) - ((0 : Nat) : Int) = Builtin.Range.rangeSize lo hi 1 := by rw [rangeSize_one]; split <;> omega
    show IsRangeIter _ _ (lo + ((0 : Nat) : Int) * 1) ((((hi - lo).toNat : Nat) : Int) - ((0 : Nat) : Int)) 1
    rw [e1, e2]
    exact Heap.get?_push_size _ rfl
  · have e : b = (s.heap.push { cls := .type "range", data := .fields #[.int lo t, .int hi u, .int 1 v] }).objs.size := by simpa using hb
    subst e
    exact I1.fpOk (Nat.le_refl _) (I1.hok.fresh (Nat.le_refl _))
def iRng1 (ta : TA) : TI := fun σ H R => ta σ H fun vs H1 => ∃ j : Int, vs = [.int j] ∧ -(2 ^ 62) ≤ j ∧ j < 2 ^ 62 ∧ R (Itr 0 j.toNat) H1
theorem pi_range1 {a : Expr} {ta : TA} {p pos : Pos} (hg : Gl X "range") (hm : X.mg "range" = none) (ha : PA X [a] ta) (hs : starEach [a] X.env = [(false, eval a X.env)] := by rfl) : PI X tg (.Call (.Name "range" p) [a] [] pos) (iRng1 ta) := by
  intro pins s σ H R I h
  refine Call_ (ld_blt I hg hm boot_range (PyProof.Rows.callWith_type1 (thn (ha pos pins s σ H _ I h) fun us s1 ⟨vs, H1, I1, r1, q1⟩ => ?_) hs rfl))
  obtain ⟨j, e, q1, q2, q⟩ := q1
  subst e
  cases r1 with
  | cons r rr =>
    cases rr
    obtain ⟨t, rfl⟩ := r
    exact call_range_1 (range_it I1 (by omega) (by omega) q1 q2 (by simpa using q))
def tFor (wi : TI) (g : TG) (tb : TS) : TS := fun D σ H => wi σ H fun J H1 => ∃ W : Nat → Nat → St → Hp → Prop, (∃ m, W 0 m σ H1) ∧ ∀ i m σ H, W i m σ H →
  (J.stop i H ∧ D.nx σ H) ∨ (J.go i H ∧ ∃ N : St → Hp → Prop, (∀ σ' H', N σ' H' → ∃ m', m' < m ∧ W (i + 1) m' σ' H') ∧ ∀ x H', J.yld i H x H' → g x σ H' fun σ2 H2 => tb { D with nx := N, ct := N, bk := D.nx } σ2 H2)
def pinsAt (fp : List Addr) (h : Heap) : List (Addr × Obj) := fp.filterMap fun b => (h.get? b).map fun o => (b, o)
theorem mem_pinsAt {fp : List Addr} {h : Heap} {b : Addr} {o : Obj} (hb : b ∈ fp) (e : h.get? b = some o) : (b, o) ∈ pinsAt fp h := List.mem_filterMap.mpr ⟨b, hb, by rw [e]; rfl⟩
theorem of_pinsAt {fp : List Addr} {h : Heap} {p : Addr × Obj} (hp : p ∈ pinsAt fp h) : p.1 ∈ fp ∧ h.get? p.1 = some p.2 := by
  obtain ⟨b, hb, e⟩ := List.mem_filterMap.mp hp
  cases q : h.get? b with
  | none => rw [q] at e; cases e
  | some o =>
    rw [q] at e
    have e' : (b, o) = p := Option.some.inj e
    subst e'
    exact ⟨hb, q⟩
theorem Inv.pinned {pins : List (Addr × Obj)} {σ : St} {H : Hp} {s : Shared} {fp : List Addr} (I : Inv X pins σ H s) (hf : ∀ b ∈ fp, FpOk X pins H b) (ho : ∀ b ∈ fp, ∃ o, s.heap.get? b = some o ∧ ∀ v, o.data ≠ .cell v) : Inv X (pins ++ pinsAt fp s.heap) σ H s :=
  I.pins_of fun p hp => (List.mem_append.mp hp).elim (fun z => I.pin p (List.mem_append_right _ z)) fun z => by
    obtain ⟨hb, e⟩ := of_pinsAt z
    obtain ⟨f0, f1, f2, _⟩ := hf p.1 hb
    obtain ⟨o, e', d⟩ := ho p.1 hb
    rw [e] at e'; cases e'
    exact ⟨e, f0, f1, f2, d⟩
theorem Inv.unpinned {pins pl : List (Addr × Obj)} {σ : St} {H : Hp} {s : Shared} (I : Inv X (pins ++ pl) σ H s) : Inv X pins σ H s := I.pins_of fun p hp => I.pin p (List.mem_append_right _ (List.mem_append_left _ hp))
theorem ps_for {iter : Expr} {body : List Stmt} {wi : TI} {g : TG} {tb : TS} {pos : Pos} (hp : PassesOwn (model X.prog X.w) X.A X.env X.xe) (hc : X.calm = true) (hi : PI X tg iter wi) (hg : PG X tg g) (hb : PSs X body tb)
    (hs : ∀ x, foldedSetIterable iter X.env x = pure x := by intro _; rfl) : PS X (.For tg iter body [] pos) (tFor wi g tb) := by
  intro pins s σ H D I h
  refine wpAny_For (thn (hi pins s σ H _ I h) fun v s1 h1 => thn h1 fun itv s2 h2 => ?_) hs
  obtain ⟨it, fp, tn, J, H2, e, I2, T, st2, f2, W, ⟨m0, w0⟩, turn⟩ := h2
  subst e
  have stat : ∀ {H' : Hp}, (∀ b ∈ fp, H' b = none) → ∀ b ∈ fp, FpOk X pins H' b := fun hn b hb => ⟨hn b hb, (f2 b hb).2⟩
  refine codeAny_forLoop_any (fun n s' => ∃ i σ' H', Inv X pins σ' H' s' ∧ tn i s'.heap ∧ (∀ b ∈ fp, H' b = none) ∧ W i n σ' H') ?_ m0 ⟨0, σ, H2, I2, st2, fun b hb => (f2 b hb).1, w0⟩
  rintro n s3 ⟨i, σ3, H3, I3, st3, fr3, w3⟩
  rcases turn i n σ3 H3 w3 with ⟨stop, qn⟩ | ⟨go, N, hN, step⟩
  · refine wpAny_passesOwn hp (thn (T.done X rfl rfl rfl hc i pins s3 σ3 H3 X.xe I3 (stat fr3) st3 stop) fun r s4 ⟨hr, I4⟩ => ?_)
    subst hr
    exact wpAny_execs_nil ⟨σ3, H3, I4, qn⟩
  · refine wpAny_passesOwn hp (thn (T.item X rfl rfl rfl hc i pins s3 σ3 H3 X.xe I3 (stat fr3) st3 go) fun r s4 ⟨u, hr, h4⟩ => ?_)
    subst hr
    refine wpAny_passesOwn hp (thn h4 fun _ s5 ⟨x, H5, I5, r5, y5, st5, fr5⟩ => ?_)
    have I5' := I5.pinned (stat fr5) (T.obj _ _ st5)
    refine wpAny_passesOwn hp (thn (hg _ s5 σ3 H5 x u _ I5' r5 (step x H5 y5)) fun _ s6 ⟨σ6, H6, I6, q6⟩ => ?_)
    refine wpAny_passesOwn hp (thn (hb _ s6 σ6 H6 _ I6 q6) fun f s7 q7 => ?_)
    have again : ∀ {σ7 : St} {H7 : Hp}, Inv X (pins ++ pinsAt fp s5.heap) σ7 H7 s7 → N σ7 H7 → ∃ m, m < n ∧ ∃ i σ' H', Inv X pins σ' H' s7 ∧ tn i s7.heap ∧ (∀ b ∈ fp, H' b = none) ∧ W i m σ' H' := fun {σ7 H7} I7 n7 => by
      obtain ⟨m', hm, w7⟩ := hN σ7 H7 n7
      refine ⟨m', hm, i + 1, σ7, H7, I7.unpinned, T.keep _ _ _ st5 fun b hb o e => (I7.pin (b, o) (List.mem_append_right _ (List.mem_append_right _ (mem_pinsAt hb e)))).1, fun b hb => ?_, w7⟩
      obtain ⟨o, e, d⟩ := T.obj _ _ st5 b hb
      exact (I7.pin (b, o) (List.mem_append_right _ (List.mem_append_right _ (mem_pinsAt hb e)))).2.1
    cases f with
    | next => obtain ⟨σ7, H7, I7, n7⟩ := q7; exact again I7 n7
    | cont => obtain ⟨σ7, H7, I7, n7⟩ := q7; exact again I7 n7
    | brk => obtain ⟨σ7, H7, I7, q7⟩ := q7; exact ⟨σ7, H7, I7.unpinned, q7⟩
    | ret v => obtain ⟨x7, σ7, H7, I7, r7, q7⟩ := q7; exact ⟨x7, σ7, H7, I7.unpinned, r7, q7⟩
end
theorem for_list {K : PySem.W.Frag} {a : Addr} {xs : List V} {g : TG} {tb : TS} {D : Ends} {σ : St} {H : Hp} (Pv : Nat → St → Hp → Prop) (h0 : Pv 0 σ H) (hl : ∀ i σ H, i ≤ xs.length → Pv i σ H → SqL K H a xs)
    (hs : ∀ i x σ H, xs[i]? = some x → Pv i σ H → g x σ H fun σ2 H2 => tb { D with nx := Pv (i + 1), ct := Pv (i + 1), bk := D.nx } σ2 H2) (hd : ∀ σ H, Pv xs.length σ H → D.nx σ H) :
    ∃ W : Nat → Nat → St → Hp → Prop, (∃ m, W 0 m σ H) ∧ ∀ i m σ H, W i m σ H →
      ((Itl K a).stop i H ∧ D.nx σ H) ∨ ((Itl K a).go i H ∧ ∃ N : St → Hp → Prop, (∀ σ' H', N σ' H' → ∃ m', m' < m ∧ W (i + 1) m' σ' H') ∧ ∀ x H', (Itl K a).yld i H x H' → g x σ H' fun σ2 H2 => tb { D with nx := N, ct := N, bk := D.nx } σ2 H2) := by
  refine ⟨fun i m σ H => m = xs.length - i ∧ i ≤ xs.length ∧ Pv i σ H, ⟨xs.length, by simp, Nat.zero_le _, h0⟩, ?_⟩
  rintro i m σ H ⟨rfl, hi, p⟩
  have q := hl i σ H hi p
  by_cases hlt : i < xs.length
  · refine .inr ⟨⟨xs, xs[i], q, by simp [hlt]⟩, Pv (i + 1), fun σ' H' p' => ⟨xs.length - (i + 1), by omega, rfl, hlt, p'⟩, fun x H' y => ?_⟩
    obtain ⟨e, y⟩ := y
    subst e
    exact hs i x σ _ (y xs q) p
  · have e : i = xs.length := by omega
    subst e
    exact .inl ⟨⟨xs, q, Nat.le_refl _⟩, hd σ H p⟩
theorem for_range {lo : Int} {n : Nat} {g : TG} {tb : TS} {D : Ends} {σ : St} {H : Hp} (Pv : Nat → St → Hp → Prop) (h0 : Pv 0 σ H)
    (hs : ∀ i σ H, i < n → Pv i σ H → g (.int (lo + i)) σ H fun σ2 H2 => tb { D with nx := Pv (i + 1), ct := Pv (i + 1), bk := D.nx } σ2 H2) (hd : ∀ σ H, Pv n σ H → D.nx σ H) :
    ∃ W : Nat → Nat → St → Hp → Prop, (∃ m, W 0 m σ H) ∧ ∀ i m σ H, W i m σ H →
      ((Itr lo n).stop i H ∧ D.nx σ H) ∨ ((Itr lo n).go i H ∧ ∃ N : St → Hp → Prop, (∀ σ' H', N σ' H' → ∃ m', m' < m ∧ W (i + 1) m' σ' H') ∧ ∀ x H', (Itr lo n).yld i H x H' → g x σ H' fun σ2 H2 => tb { D with nx := N, ct := N, bk := D.nx } σ2 H2) := by
  refine ⟨fun i m σ H => m = n - i ∧ i ≤ n ∧ Pv i σ H, ⟨n, by simp, Nat.zero_le _, h0⟩, ?_⟩
  rintro i m σ H ⟨rfl, hi, p⟩
  by_cases hlt : i < n
  · refine .inr ⟨hlt, Pv (i + 1), fun σ' H' p' => ⟨n - (i + 1), by omega, rfl, hlt, p'⟩, fun x H' y => ?_⟩
    obtain ⟨e, y⟩ := y
    subst e y
    exact hs i σ _ hlt p
  · have e : i = n := by omega
    subst e
    exact .inl ⟨Nat.le_refl _, hd σ H p⟩
end L2
namespace L2
open PySem PySem.Spec PyProof.Rows
abbrev R2 := V → V → Hp → VK → Prop
def OpR (X : Cx) (f : Value → Value → Sem Value) (r : R2) : Prop :=
  ∀ (pins : List (Addr × Obj)) (s : Shared) (σ : St) (H : Hp) (x y : V) (v u : Value) (Q : VK), Inv X pins σ H s → RelV x v → RelV y u → r x y H Q →
    wpAny (model X.prog X.w) X.A (f v u) (EP X pins σ Q) X.xe s
def UnR (X : Cx) (f : Value → Sem Value) (r : V → Hp → VK → Prop) : Prop :=
  ∀ (pins : List (Addr × Obj)) (s : Shared) (σ : St) (H : Hp) (x : V) (v : Value) (Q : VK), Inv X pins σ H s → RelV x v → r x H Q →
    wpAny (model X.prog X.w) X.A (f v) (EP X pins σ Q) X.xe s
def CallR (X : Cx) (f : Value) (r : List V → Hp → VK → Prop) : Prop :=
  ∀ (pins : List (Addr × Obj)) (s : Shared) (σ : St) (H : Hp) (xs : List V) (us : List Value) (Q : VK), Inv X pins σ H s → Vals xs us → r xs H Q →
    wpAny (model X.prog X.w) X.A (call f us) (EP X pins σ Q) X.xe s
def tOp (r : R2) (ta tb : TE) : TE := fun σ H Q => ta σ H fun x H1 => tb σ H1 fun y H2 => r x y H2 Q
def tUn (r : V → Hp → VK → Prop) (ta : TE) : TE := fun σ H Q => ta σ H fun x H1 => r x H1 Q
def rI (C : Int → Int → Prop) (g : Int → Int → V) : R2 := fun x y H Q => ∃ i j, x = .int i ∧ y = .int j ∧ C i j ∧ Q (g i j) H
def rI0 (g : Int → Int → V) : R2 := fun x y H Q => ∃ i j, x = .int i ∧ y = .int j ∧ Q (g i j) H
def rU (g : Int → V) : V → Hp → VK → Prop := fun x H Q => ∃ i, x = .int i ∧ Q (g i) H
section
variable {X : Cx} {a b c : Expr} {ta tb tc : TE} {pos : Pos}
theorem binT (ha : PE X a ta) (hb : PE X b tb) {pins : List (Addr × Obj)} {s : Shared} {σ : St} {H : Hp} {R : V → V → Hp → Prop} (I : Inv X pins σ H s)
    (h : ta σ H fun x H1 => tb σ H1 fun y H2 => R x y H2) {Q : Value → Shared → Prop} {f : Value → Value → Sem Value}
    (hf : ∀ v u s2 x y H2, Inv X pins σ H2 s2 → RelV x v → RelV y u → R x y H2 → wpAny (model X.prog X.w) X.A (f v u) Q X.xe s2) :
    wpAny (model X.prog X.w) X.A (eval a X.env) (fun v s₁ => wpAny (model X.prog X.w) X.A (eval b X.env) (fun u s₂ => wpAny (model X.prog X.w) X.A (f v u) Q X.xe s₂) X.xe s₁) X.xe s := by
  refine thn (ha pins s σ H _ I h) fun v s1 ⟨x, H1, I1, r1, q1⟩ => ?_
  refine thn (hb pins s1 σ H1 _ I1 q1) fun u s2 ⟨y, H2, I2, r2, q2⟩ => ?_
  exact hf v u s2 x y H2 I2 r1 r2 q2
theorem pe_op {op : Operator} {r : R2} (ho : OpR X (binaryOp op) r) (ha : PE X a ta) (hb : PE X b tb) : PE X (.BinOp a op b pos) (tOp r ta tb) := by
  intro pins s σ H Q I h
  exact wpAny_BinOp (binT ha hb I h fun v u s2 x y H2 I2 rx ry q => ho pins s2 σ H2 x y v u Q I2 rx ry q)
theorem pe_un {op : UnaryOp} {r : V → Hp → VK → Prop} (ho : UnR X (unaryOp op) r) (ha : PE X a ta) : PE X (.UnaryOp op a pos) (tUn r ta) := by
  intro pins s σ H Q I h
  exact UnaryOp_ (thn (ha pins s σ H _ I h) fun v s1 ⟨x, H1, I1, r1, q1⟩ => ho pins s1 σ H1 x v Q I1 r1 q1)
theorem opI {f : Value → Value → Sem Value} {C : Int → Int → Prop} {g : Int → Int → Int}
    (rule : ∀ (i j : Int) (t u : Tok) (s : Shared) (Q : Value → Shared → Prop) (E : Value → Shared → Prop), C i j → Q (.int (g i j) s.toks) { s with toks := s.toks + 1 } → wpAny (model X.prog X.w) X.A (f (.int i t) (.int j u)) Q E s) :
    OpR X f (rI C fun i j => .int (g i j)) := by
  intro pins s σ H x y v u Q I rx ry h
  obtain ⟨i, j, rfl, rfl, hc, q⟩ := h
  obtain ⟨t, rfl⟩ := rx
  obtain ⟨t', rfl⟩ := ry
  exact rule i j t t' s _ _ hc ⟨.int (g i j), H, I.tok _, ⟨_, rfl⟩, q⟩
theorem opI0 {f : Value → Value → Sem Value} {g : Int → Int → Int}
    (rule : ∀ (i j : Int) (t u : Tok) (s : Shared) (Q : Value → Shared → Prop) (E : Value → Shared → Prop), Q (.int (g i j) s.toks) { s with toks := s.toks + 1 } → wpAny (model X.prog X.w) X.A (f (.int i t) (.int j u)) Q E s) :
    OpR X f (rI0 fun i j => .int (g i j)) := by
  intro pins s σ H x y v u Q I rx ry h
  obtain ⟨i, j, rfl, rfl, q⟩ := h
  obtain ⟨t, rfl⟩ := rx
  obtain ⟨t', rfl⟩ := ry
  exact rule i j t t' s _ _ ⟨.int (g i j), H, I.tok _, ⟨_, rfl⟩, q⟩
theorem opB0 {f : Value → Value → Sem Value} {g : Int → Int → Bool}
    (rule : ∀ (i j : Int) (t u : Tok) (s : Shared) (Q : Value → Shared → Prop) (E : Value → Shared → Prop), Q (.bool (g i j)) s → wpAny (model X.prog X.w) X.A (f (.int i t) (.int j u)) Q E s) :
    OpR X f (rI0 fun i j => .bl (g i j)) := by
  intro pins s σ H x y v u Q I rx ry h
  obtain ⟨i, j, rfl, rfl, q⟩ := h
  obtain ⟨t, rfl⟩ := rx
  obtain ⟨t', rfl⟩ := ry
  exact rule i j t t' s _ _ ⟨.bl (g i j), H, I, rfl, q⟩
def CMul (i j : Int) : Prop := (-(2 ^ 64) < i ∧ i < 2 ^ 64) ∨ (-(2 ^ 64) < j ∧ j < 2 ^ 64)
theorem CMul.ok {i j : Int} (h : CMul i j) : IntMulOk i j := by
  rcases h with ⟨h1, h2⟩ | ⟨h1, h2⟩
  · exact .of_left (intBits_le_64 h1 h2)
  · exact .of_right (intBits_le_64 h1 h2)
theorem op_add : OpR X (binaryOp .Add) (rI0 fun i j => .int (i + j)) := opI0 fun _ _ _ _ _ _ _ q => add_int q
theorem op_sub : OpR X (binaryOp .Sub) (rI0 fun i j => .int (i - j)) := opI0 fun _ _ _ _ _ _ _ q => sub_int q
theorem op_mul : OpR X (binaryOp .Mult) (rI CMul fun i j => .int (i * j)) := opI fun _ _ _ _ _ _ _ hc q => mul_int q hc.ok
theorem op_mod : OpR X (binaryOp .Mod) (rI (fun _ j => 0 < j) fun i j => .int (i % j)) := opI fun i j _ _ _ _ _ hc q => by
  have h1 : (0 : Int) < j := hc
  exact mod_int' (by omega) (by rw [Int.fmod_eq_emod_of_nonneg i (by omega)]; exact q)
theorem unI {f : Value → Sem Value} {g : Int → Int}
    (rule : ∀ (i : Int) (t : Tok) (s : Shared) (Q : Value → Shared → Prop) (E : Value → Shared → Prop), Q (.int (g i) s.toks) { s with toks := s.toks + 1 } → wpAny (model X.prog X.w) X.A (f (.int i t)) Q E s) :
    UnR X f (rU fun i => .int (g i)) := by
  intro pins s σ H x v Q I rx h
  obtain ⟨i, rfl, q⟩ := h
  obtain ⟨t, rfl⟩ := rx
  exact rule i t s _ _ ⟨.int (g i), H, I.tok _, ⟨_, rfl⟩, q⟩
theorem un_neg : UnR X (unaryOp .USub) (rU fun i => .int (-i)) := unI fun _ _ _ _ _ q => neg_int q
end
def scal : V → V → Bool
  | .non, .non => true | .non, .int _ => true | .int _, .non => true | .non, .bl _ => true | .bl _, .non => true | .non, .str _ => true | .str _, .non => true
  | .int _, .int _ => true | .bl _, .bl _ => true | .str _, .str _ => true | .byt _, .byt _ => true
  | .int _, .str _ => true | .str _, .int _ => true | .bl _, .str _ => true | .str _, .bl _ => true
  | _, _ => false
def rEq : R2 := fun x y H Q => scal x y = true ∧ Q (.bl (decide (x = y))) H
def rNe : R2 := fun x y H Q => scal x y = true ∧ Q (.bl (!decide (x = y))) H
theorem dec_int {i j : Int} : decide (V.int i = V.int j) = (i == j) := by
  rw [Bool.eq_iff_iff]
  simp
theorem dec_bl {i j : Bool} : decide (V.bl i = V.bl j) = (i == j) := by
  rw [Bool.eq_iff_iff]
  simp
theorem dec_str {i j : Str} : decide (V.str i = V.str j) = (i == j) := by
  rw [Bool.eq_iff_iff]
  simp
theorem dec_byt {i j : Array UInt8} : decide (V.byt i = V.byt j) = (i.toList == j.toList) := by
  rw [Bool.eq_iff_iff]
  cases i
  cases j
  simp
section
variable {X : Cx} {a b c : Expr} {ta tb tc : TE} {pos : Pos}
theorem fin_bl {pins : List (Addr × Obj)} {σ : St} {H : Hp} {s : Shared} {Q : VK} {k k' : Bool} (I : Inv X pins σ H s) (q : Q (.bl k) H) (e : k = k') : EP X pins σ Q (.bool k') s := by
  subst e
  exact ⟨.bl k, H, I, rfl, q⟩
theorem op_eq : OpR X (compareOp .Eq) rEq := by
  intro pins s σ H x y v u Q I rx ry h
  obtain ⟨hs, q⟩ := h
  cases x with
  | non =>
    cases rx
    cases y with
    | non => cases ry; exact PySem.EqNone.eq_none_none (fin_bl I q (by simp))
    | bl j => cases ry; exact PySem.EqNone.eq_none_bool (fin_bl I q (by simp))
    | int j => obtain ⟨t', rfl⟩ := ry; exact PySem.EqNone.eq_none_int (fin_bl I q (by simp))
    | str j => obtain ⟨t', rfl⟩ := ry; exact PySem.EqNone.eq_none_str (fin_bl I q (by simp))
    | _ => exact absurd (show false = true from hs) Bool.false_ne_true
  | bl i =>
    cases rx
    cases y with
    | non => cases ry; exact PySem.EqNone.eq_bool_none (fin_bl I q (by simp))
    | bl j => cases ry; exact eq_bool (fin_bl I q dec_bl)
    | str j => obtain ⟨t', rfl⟩ := ry; exact PySem.EqMixed.eq_bool_str (fin_bl I q (by simp))
    | _ => exact absurd (show false = true from hs) Bool.false_ne_true
  | int i =>
    obtain ⟨t, rfl⟩ := rx
    cases y with
    | non => cases ry; exact PySem.EqNone.eq_int_none (fin_bl I q (by simp))
    | int j => obtain ⟨t', rfl⟩ := ry; exact eq_int (fin_bl I q dec_int)
    | str j => obtain ⟨t', rfl⟩ := ry; exact PySem.EqMixed.eq_int_str (fin_bl I q (by simp))
    | _ => exact absurd (show false = true from hs) Bool.false_ne_true
  | str i =>
    obtain ⟨t, rfl⟩ := rx
    cases y with
    | non => cases ry; exact PySem.EqNone.eq_str_none (fin_bl I q (by simp))
    | bl j => cases ry; exact PySem.EqMixed.eq_str_bool (fin_bl I q (by simp))
    | int j => obtain ⟨t', rfl⟩ := ry; exact PySem.EqMixed.eq_str_int (fin_bl I q (by simp))
    | str j => obtain ⟨t', rfl⟩ := ry; exact eq_str (fin_bl I q dec_str)
    | _ => exact absurd (show false = true from hs) Bool.false_ne_true
  | byt i =>
    obtain ⟨t, rfl⟩ := rx
    cases y with
    | byt j => obtain ⟨t', rfl⟩ := ry; exact PySem.W.eq_bytes (fin_bl I q dec_byt)
    | _ => exact absurd (show false = true from hs) Bool.false_ne_true
  | _ => cases y <;> exact absurd (show false = true from hs) Bool.false_ne_true
theorem op_ne : OpR X (compareOp .NotEq) rNe := by
  intro pins s σ H x y v u Q I rx ry h
  obtain ⟨hs, q⟩ := h
  cases x with
  | non =>
    cases rx
    cases y with
    | non => cases ry; exact PySem.EqNone.ne_none_none (fin_bl I q (by simp))
    | bl j => cases ry; exact PySem.EqNone.ne_none_bool (fin_bl I q (by simp))
    | int j => obtain ⟨t', rfl⟩ := ry; exact PySem.EqNone.ne_none_int (fin_bl I q (by simp))
    | str j => obtain ⟨t', rfl⟩ := ry; exact PySem.EqNone.ne_none_str (fin_bl I q (by simp))
    | _ => exact absurd (show false = true from hs) Bool.false_ne_true
  | bl i =>
    cases rx
    cases y with
    | non => cases ry; exact PySem.EqNone.ne_bool_none (fin_bl I q (by simp))
    | bl j => cases ry; exact ne_bool (fin_bl I q (congrArg not dec_bl))
    | str j => obtain ⟨t', rfl⟩ := ry; exact PySem.EqMixed.ne_bool_str (fin_bl I q (by simp))
    | _ => exact absurd (show false = true from hs) Bool.false_ne_true
  | int i =>
    obtain ⟨t, rfl⟩ := rx
    cases y with
    | non => cases ry; exact PySem.EqNone.ne_int_none (fin_bl I q (by simp))
    | int j => obtain ⟨t', rfl⟩ := ry; exact ne_int (fin_bl I q (congrArg not dec_int))
    | str j => obtain ⟨t', rfl⟩ := ry; exact PySem.EqMixed.ne_int_str (fin_bl I q (by simp))
    | _ => exact absurd (show false = true from hs) Bool.false_ne_true
  | str i =>
    obtain ⟨t, rfl⟩ := rx
    cases y with
    | non => cases ry; exact PySem.EqNone.ne_str_none (fin_bl I q (by simp))
    | bl j => cases ry; exact PySem.EqMixed.ne_str_bool (fin_bl I q (by simp))
    | int j => obtain ⟨t', rfl⟩ := ry; exact PySem.EqMixed.ne_str_int (fin_bl I q (by simp))
    | str j => obtain ⟨t', rfl⟩ := ry; exact ne_str (fin_bl I q (congrArg not dec_str))
    | _ => exact absurd (show false = true from hs) Bool.false_ne_true
  | byt i =>
    obtain ⟨t, rfl⟩ := rx
    cases y with
    | byt j => obtain ⟨t', rfl⟩ := ry; exact PySem.W.ne_bytes (fin_bl I q (congrArg not dec_byt))
    | _ => exact absurd (show false = true from hs) Bool.false_ne_true
  | _ => cases y <;> exact absurd (show false = true from hs) Bool.false_ne_true
theorem op_gt : OpR X (compareOp .Gt) (rI0 fun i j => .bl (decide (j < i))) := opB0 fun _ _ _ _ _ _ _ q => gt_int q
theorem OpR.or {f : Value → Value → Sem Value} {r r' : R2} (h : OpR X f r) (h' : OpR X f r') : OpR X f (fun x y H Q => r x y H Q ∨ r' x y H Q) := by
  intro pins s σ H x y v u Q I rx ry q
  rcases q with q | q
  · exact h pins s σ H x y v u Q I rx ry q
  · exact h' pins s σ H x y v u Q I rx ry q
theorem nomark (b : Expr) {op : CmpOp} (h : op ≠ .In := by decide) (h2 : op ≠ .NotIn := by decide) : behindInMarks op b = false := by
  have e1 : (op == CmpOp.In) = false := by cases op <;> first | rfl | exact absurd rfl h
  have e2 : (op == CmpOp.NotIn) = false := by cases op <;> first | rfl | exact absurd rfl h2
  cases b <;> simp [behindInMarks, e1, e2]
theorem pe_cmpR {op : CmpOp} {r : R2} (ho : OpR X (compareOp op) r) (ha : PE X a ta) (hb : PE X b tb) (hm : behindInMarks op b = false) : PE X (.Compare a [op] [b] pos) (tOp r ta tb) := by
  intro pins s σ H Q I h
  exact wpAny_Compare1 (binT ha hb I h fun v u s2 x y H2 I2 rx ry q => ho pins s2 σ H2 x y v u Q I2 rx ry q) hm
def tTest (t : TE) : TT := fun σ H Q => t σ H fun x H' => ∃ k, x = .bl k ∧ Q k H'
theorem pt_cmpR {op : CmpOp} {r : R2} (ho : OpR X (compareOp op) r) (ha : PE X a ta) (hb : PE X b tb) (hm : behindInMarks op b = false) : PT X (.Compare a [op] [b] pos) (tTest (tOp r ta tb)) := by
  intro pins s σ H Q I h
  refine wpAny_isTrue_Compare1 (thn (ha pins s σ H _ I h) fun v s1 ⟨x, H1, I1, r1, q1⟩ => thn (hb pins s1 σ H1 _ I1 q1) fun u s2 ⟨y, H2, I2, r2, q2⟩ =>
    thn (ho pins s2 σ H2 x y v u _ I2 r1 r2 q2) fun c s3 ⟨z, H3, I3, r3, k, e, q3⟩ => ?_) hm
  subst e
  cases r3
  exact wpAny_truthy_bool ⟨H3, I3, q3⟩
theorem line63 : (sizeLine : Nat) < 2 ^ 63 := by rw [sizeLine_eq]; decide
theorem vals1 {x : V} {us : List Value} (r : Vals [x] us) : ∃ u, us = [u] ∧ RelV x u := by
  cases r with
  | cons r1 r2 => cases r2; exact ⟨_, rfl, r1⟩
end
end L2
namespace L2
open PySem PySem.Spec PyProof.Rows
structure ObjM (h : Heap) (x dx C : Addr) (mA : Str → Option Value) : Prop where
  obj : h.get? x = some (PySem.W.instObj C dx)
  ns : h.Ns1 dx mA
  ne : dx ≠ x
theorem lookIn_ns {h : Heap} {dx : Addr} {mA : Str → Option Value} (n : h.Ns1 dx mA) : ∃ od, h.get? dx = some od ∧ ∀ name, PySem.W.lookIn name od = some (mA name) := by
  obtain ⟨o, es, ep, ho, hd, hk, _, hm⟩ := n
  refine ⟨o, ho, fun name => ?_⟩
  have e := hm name
  unfold nsFind findBy at e
  rw [← Array.find?_toList] at e
  unfold PySem.W.lookIn
  rw [hd]
  dsimp only
  split
  · rename_i y q
    rw [q] at e
    exact congrArg some e
  · rename_i q
    rw [q] at e
    have a : es.toList.any (·.refKey) = false := by
      rw [List.any_eq_false]
      intro y hy
      obtain ⟨z, t, hkey⟩ := hk y (Array.mem_toList_iff.mp hy)
      simp [DictEntry.refKey, hkey]
    have a' : ¬ es.toList.any (·.refKey) = true := by rw [a]; exact Bool.false_ne_true
    rw [if_neg a']
    exact congrArg some e
theorem ObjM.look {h : Heap} {x dx C : Addr} {mA : Str → Option Value} (I : ObjM h x dx C mA) : ∃ od, PySem.W.InstAt h x (PySem.W.instObj C dx) C (some od) ∧ ∀ name, PySem.W.lookIn name od = some (mA name) :=
  let ⟨od, ho, hl⟩ := lookIn_ns I.ns
  ⟨od, ⟨I.obj, rfl, rfl, ho⟩, hl⟩
section
variable {prog : Program} {w : World} {A : Around} {E : Value → Shared → Prop} {s : Shared} {K : PySem.W.Frag} {x dx C f : Addr} {mA : Str → Option Value} {name : Str} {v : Value}
end
section
variable {P : Program} {w : World} {H H' : Hp} {h h' : Heap} {a C dx : Addr} {fs fs' : List (Str × V)}
end
structure Cls (K : PySem.W.Frag) (C : Addr) : Prop where
  pg : PySem.W.plainGet K C Str.empty = true
  hd : PySem.W.hasDictIn K C = true
  po : PySem.W.plainOver K C = true
  sa : PySem.W.findIn K (.ref C) "__setattr__" = some (some (.builtin "object.__setattr__"))
theorem Cls.get {K : PySem.W.Frag} {C : Addr} (c : Cls K C) (f : Str) : PySem.W.plainGet K C f = true := c.pg
section
variable {X : Cx} {pins : List (Addr × Obj)} {σ : St} {H : Hp} {s : Shared} {a C dx : Addr} {fs : List (Str × V)} {f : Str} {v : V} {A : Around} {E : Value → Shared → Prop}
end
section
variable {X : Cx} {o e value : Expr} {f : Str} {pos pos' tpos : Pos} {ta tv : TE}
end
section
variable {X : Cx} {pins : List (Addr × Obj)} {σ : St} {H : Hp} {s : Shared} {A : Around} {E : Value → Shared → Prop} {Q : Value → Shared → Prop} {c : Value} {b : Bool}
end
end L2
namespace L2
open PySem PySem.Spec PyProof.Rows
structure Room (k : Nat) (A : Around) : Prop where
  hd : A.handled = none
  dp : A.depth + 3 * k + 5 < recursionLimit
  un : A.units + 16 * k + 200 < cLine
theorem Room.mono {j k : Nat} {A : Around} (r : Room k A) (h : j ≤ k) : Room j A := ⟨r.hd, by have := r.dp; omega, by have := r.un; omega⟩
theorem Room.deeper {k : Nat} {A : Around} (r : Room (k + 1) A) (env : Env) : Room k (A.deeper env) :=
  ⟨r.hd, by have := r.dp; show A.depth + 1 + 3 * k + 5 < _; omega, by have := r.un; show A.units + 3 + 16 * k + 200 < _; omega⟩
theorem Room.in1 {k : Nat} {A : Around} (r : Room (k + 1) A) : Room k A.in1 :=
  ⟨r.hd, by have := r.dp; show A.depth + 3 * k + 5 < _; omega, by have := r.un; show A.units + 1 + 16 * k + 200 < _; omega⟩
theorem Room.depth {k : Nat} {A : Around} (r : Room k A) : A.depth < recursionLimit := by have := r.dp; omega
theorem Room.units {k : Nat} {A : Around} (r : Room k A) : A.units + 64 < cLine := by have := r.un; omega
def tNil : TA := fun _ H Q => Q [] H
def tCons (ta : TE) (tr : TA) : TA := fun σ H Q => ta σ H fun x H1 => tr σ H1 fun xs H2 => Q (x :: xs) H2
section
variable {X : Cx} {e : Expr} {es : List Expr} {te : TE} {t : TA} {pos : Pos}
theorem pa_nil : PA X [] tNil := fun _ _ _ _ H Q I h => Calls.spliced_nil ⟨[], H, I, .nil, h⟩
theorem pa_cons (ha : PE X e te) (hr : PA X es t) (hs : starEach (e :: es) X.env = (false, eval e X.env) :: starEach es X.env := by rfl) : PA X (e :: es) (tCons te t) := by
  intro pos pins s σ H Q I h
  rw [hs]
  show wpAny _ _ (spliced ((false, eval e X.env) :: backTo pos (starEach es X.env))) _ _ s
  refine Calls.spliced_cons (thn (ha pins s σ H _ I h) fun u s1 ⟨x, H1, I1, r1, q1⟩ => ?_)
  exact thn (hr pos pins s1 σ H1 _ I1 q1) fun us s2 ⟨xs, H2, I2, r2, q2⟩ => ⟨x :: xs, H2, I2, .cons r1 r2, q2⟩
def tLst (t : TA) : TE := fun σ H Q => t σ H fun xs H1 => xs.length ≤ sizeLine ∧ ∀ p, H1 p = none → Q (.ref p) (upd H1 p (.lst xs))
theorem pe_lst (h : PA X es t) : PE X (.List es pos) (tLst t) := by
  intro pins s σ H Q I hq
  refine wpAny_List_spliced (thn (h pos pins s σ H _ I hq) fun us s1 ⟨xs, H1, I1, r, z, q⟩ => ⟨by rw [← r.length]; exact z, ?_⟩)
  have hf : H1 s1.heap.objs.size = none := I1.hok.fresh (Nat.le_refl _)
  refine ⟨.ref s1.heap.objs.size, upd H1 s1.heap.objs.size (.lst xs), I1.laid (t' := s1.toks) (fun b u e => Heap.get?_push_of_some _ e) (Nat.le_refl _) ?_, rfl, q _ hf⟩
  exact ⟨z, us, 0, r, Heap.get?_push_size _ rfl⟩
end
abbrev Sp := List V → Hp → VK → XK → Prop
abbrev CXT := List Env → Hp → Shared → XK → Value → Shared → Prop
structure Env0 (P : Program) (w : World) (K : PySem.W.Frag) (mg : Str → Option Value) (base : Heap) (A : Around) (outer : List Env) (s : Shared) (H : Hp) : Prop where
  frames : A.frames = some outer
  mod : Mod K mg base
  bs : ∀ b o, base.get? b = some o → s.heap.get? b = some o ∧ H b = none
  bsz : base.objs.size ≤ s.heap.objs.size
  funs : s.heap.FunFrames base outer
  frf : ∀ b ∈ frs outer, H b = none
  hok : HOk P w H s.heap
  bare : AllBare s.gens
def CE (outer : List Env) (P : Program) (w : World) (H : Hp) (s : Shared) (Q : VK) (u : Value) (s' : Shared) : Prop :=
  ∃ v H', s'.os = s.os ∧ AllBare s'.gens ∧ Un (frs outer) [] H H' s.heap s'.heap ∧ HOk P w H' s'.heap ∧ RelV v u ∧ Q v H'
def CR (CX : CXT) (outer : List Env) (P : Program) (w : World) (H : Hp) (s : Shared) (Q : VK) (E : XK) (r : Result) (s' : Shared) : Prop :=
  match r with
  | .ok (.ret u) => CE outer P w H s Q u s'
  | .ok _ => False
  | .error e => CX outer H s E e s'
structure FnOk (P : Program) (w : World) (K : PySem.W.Frag) (mg : Str → Option Value) (base : Heap) (CX : CXT) (k : Nat) (f : Addr) (fd : FuncData) (ps : List Str) (sp : Sp) : Prop where
  len : ∀ vs H Q E, sp vs H Q E → vs.length = ps.length
  run : ∀ (A : Around) (outer : List Env) (s : Shared) (H : Hp) (args : Args) (us : List Value) (vs : List V) (Q : VK) (E : XK), Room k A → Env0 P w K mg base A outer s H → BindsTo s fd args (ps.zip us) → Vals vs us → sp vs H Q E →
    codeAny (model P w) A (.call (.ref f) args) (CR CX outer P w H s Q E) s
theorem FnOk.mono {P : Program} {w : World} {K : PySem.W.Frag} {mg : Str → Option Value} {base : Heap} {CX : CXT} {j k : Nat} {f : Addr} {fd : FuncData} {ps : List Str} {sp : Sp} (F : FnOk P w K mg base CX j f fd ps sp) (h : j ≤ k) :
    FnOk P w K mg base CX k f fd ps sp := ⟨F.len, fun A outer s H args us vs Q E hr => F.run A outer s H args us vs Q E (hr.mono h)⟩
theorem FnOk.imp {P : Program} {w : World} {K : PySem.W.Frag} {mg : Str → Option Value} {base : Heap} {CX : CXT} {k : Nat} {f : Addr} {fd : FuncData} {ps : List Str} {sp sp' : Sp} (F : FnOk P w K mg base CX k f fd ps sp)
    (h : ∀ vs H Q E, sp' vs H Q E → sp vs H Q E) : FnOk P w K mg base CX k f fd ps sp' :=
  ⟨fun vs H Q E q => F.len vs H Q E (h _ _ _ _ q), fun A outer s H args us vs Q E hr he hb hv hs => F.run A outer s H args us vs Q E hr he hb hv (h _ _ _ _ hs)⟩
theorem Env0.in1 {P : Program} {w : World} {K : PySem.W.Frag} {mg : Str → Option Value} {base : Heap} {A : Around} {outer : List Env} {s : Shared} {H : Hp} (e : Env0 P w K mg base A outer s H) :
    Env0 P w K mg base A.in1 outer s H := ⟨e.frames, e.mod, e.bs, e.bsz, e.funs, e.frf, e.hok, e.bare⟩
section
variable {X : Cx} {pins : List (Addr × Obj)} {σ : St} {H : Hp} {s s' : Shared}
theorem Inv.env0 (I : Inv X pins σ H s) : Env0 X.prog X.w X.K X.mg X.base X.A X.stack s H :=
  ⟨I.ok.frames, I.ok.mod, I.bs, Nat.le_trans I.ok.bsz I.sz, I.stack, I.stkFree, I.hok, I.bare⟩
theorem Inv.after {Q : VK} {u : Value} (I : Inv X pins σ H s) (h : CE X.stack X.prog X.w H s Q u s') : EP X pins σ Q u s' := by
  obtain ⟨v, H', os, bare, un, hok, r, q⟩ := h
  obtain ⟨hh, g, d, t, os'⟩ := s'
  obtain rfl : os' = s.os := os
  exact ⟨v, H', I.call (h' := hh) (g' := g) (d' := d) (t' := t) (ch := []) un hok bare (fun b z => absurd z (by simp)), r, q⟩
end
def tCall (sp : Sp) (dvs : List V) (E : XK) (t : TA) : TE := fun σ H Q => t σ H fun vs H1 => sp (vs ++ dvs) H1 Q E
def Binds (K : PySem.W.Frag) (fd : FuncData) (ps : List Str) (ds : List Value) : Prop :=
  ∀ (s : Shared) (us : List Value), K.In s.heap → (us ++ ds).length = ps.length → BindsTo s fd ⟨us, []⟩ (ps.zip (us ++ ds))
theorem Binds.all {K : PySem.W.Frag} {fd : FuncData} {ps : List Str} (h : ∀ us : List Value, us.length = ps.length → bindArgs fd ⟨us, []⟩ = pure (ps.zip us)) : Binds K fd ps [] := fun s us _ hl => by
  rw [List.append_nil] at hl ⊢
  exact .of_eq (h us hl)
def Passes (CX : CXT) (X : Cx) (E : XK) : Prop := ∀ (pins : List (Addr × Obj)) (σ : St) (H : Hp) (s : Shared) (e : Value) (s' : Shared), Inv X pins σ H s → CX X.stack H s E e s' → X.xe e s'
section
variable {X : Cx} {CX : CXT} {k : Nat} {f C : Addr} {fd : FuncData} {ps : List Str} {sp : Sp} {dvs : List V} {ds : List Value} {E : XK} {x m : Str} {p pos apos : Pos} {e o : Expr} {es : List Expr} {ta : TE} {t : TA}
theorem run_fn {pins : List (Addr × Obj)} {σ : St} {H : Hp} {s : Shared} {Q : VK} {us : List Value} {vs : List V} (F : FnOk X.prog X.w X.K X.mg X.base CX k f fd ps sp) (hr : Room k X.A) (hb : Binds X.K fd ps ds) (hd : Vals dvs ds) (hx : Passes CX X E)
    (I : Inv X pins σ H s) (r : Vals vs us) (h : sp (vs ++ dvs) H Q E) : wpAny (model X.prog X.w) X.A (call (.ref f) us) (EP X pins σ Q) X.xe s := by
  have r2 : Vals (vs ++ dvs) (us ++ ds) := r.append hd
  have hl : (us ++ ds).length = ps.length := by rw [← r2.length]; exact F.len _ _ _ _ h
  refine wpAny_call (codeAny_mono (F.run X.A X.stack s H ⟨us, []⟩ (us ++ ds) (vs ++ dvs) Q E hr I.env0 (hb s us I.kIn hl) r2 h) fun r s' hq => ?_)
  cases r with
  | error e => exact hx pins σ H s e s' I hq
  | ok fl =>
    cases fl with
    | ret u => exact I.after hq
    | next => exact False.elim hq
    | brk => exact False.elim hq
    | cont => exact False.elim hq
theorem pe_call (F : FnOk X.prog X.w X.K X.mg X.base CX k f fd ps sp) (hr : Room k X.A) (hg : Gl X x) (hm : X.mg x = some (.ref f)) (hk : PySem.W.keepIn X.K (.ref f) = true) (hb : Binds X.K fd ps ds) (hd : Vals dvs ds) (hx : Passes CX X E)
    (ha : PA X (e :: es) t) (hdb : (x == ("__debug__" : Str)) = false := by decide) (he : starEach (e :: es) X.env = (false, eval e X.env) :: starEach es X.env := by rfl) (hpl : (backTo pos (starEach es X.env)).any (·.1) = false := by rfl) :
    PE X (.Call (.Name x p) (e :: es) [] pos) (tCall sp dvs E t) := by
  intro pins s σ H Q I h
  refine wpAny_Call_Name_kw (ld_glob I hg hm ?_ hdb)
  refine PySem.W.callWith_K (h₀ := X.base) I.ok.mod.kin hk (thn (ha pos pins s σ H _ I h) fun us s1 ⟨vs, H1, I1, r, q⟩ => ⟨I1.kIn, ?_⟩) he hpl
  exact run_fn F hr hb hd hx I1 r q
end
section
variable {X : Cx} {CX : CXT} {k : Nat} {f C : Addr} {fd : FuncData} {ps ks : List Str} {sp : Sp} {E : XK} {x m : Str} {p pos apos kpos : Pos} {e o : Expr} {es : List Expr} {kws : List Keyword} {te ta : TE} {t tk : TA} {nm : Option Str}
variable {g : List Value → List Value → List Value} {gV : List V → List V → List V}
end
structure FnScope (N P : List Str) (sc : Scope) : Prop where
  kind : sc.kind = .function
  co : sc.isCoroutine = false
  gen : sc.isGenerator = false
  nd : N.Nodup
  pre : N.take P.length = P
  par : ∀ x ∈ P, sc.names.lookup x = some .local ∨ sc.names.lookup x = some .cell
  nofree : ∀ y ∈ sc.names, y.2 ≠ .free
theorem bindL_out {kindOf : Str → Option NameKind} {x : Str} : ∀ {binds : List (Str × Value)} {m : Str → Option Value}, (∀ v, (x, v) ∉ binds) → bindL kindOf binds m x = m x
  | [], _, _ => rfl
  | (n, v) :: r, m, h => by
    unfold bindL
    rw [bindL_out fun w hw => h w (List.mem_cons_of_mem _ hw)]
    split
    · have : x ≠ n := by rintro rfl; exact h v List.mem_cons_self
      simp [this]
    · rfl
theorem bindC_out {kindOf : Str → Option NameKind} {x : Str} : ∀ {binds : List (Str × Value)} {m : Str → Option Value}, (∀ v, (x, v) ∉ binds) → bindC kindOf binds m x = m x
  | [], _, _ => rfl
  | (n, v) :: r, m, h => by
    unfold bindC
    rw [bindC_out fun w hw => h w (List.mem_cons_of_mem _ hw)]
    split
    · rfl
    · have : x ≠ n := by rintro rfl; exact h v List.mem_cons_self
      simp [this]
theorem bindL_get {kindOf : Str → Option NameKind} {x : Str} {v : Value} : ∀ {P : List Str} {vs : List Value} {i : Nat} {m : Str → Option Value}, P.Nodup → P[i]? = some x → vs[i]? = some v → kindOf x = some .local →
    bindL kindOf (P.zip vs) m x = some v
  | [], _, _, _, _, h, _, _ => by simp at h
  | _ :: _, [], _, _, _, _, h, _ => by simp at h
  | p :: P, w :: vs, 0, m, nd, h1, h2, hk => by
    simp at h1 h2; subst h1; subst h2
    show bindL kindOf ((p, w) :: P.zip vs) m p = _
    unfold bindL
    rw [bindL_out fun v hv => (List.nodup_cons.mp nd).1 (List.of_mem_zip hv).1, if_pos hk]
    simp
  | p :: P, w :: vs, i + 1, m, nd, h1, h2, hk => by
    show bindL kindOf ((p, w) :: P.zip vs) m x = _
    unfold bindL
    exact bindL_get (i := i) (List.nodup_cons.mp nd).2 (by simpa using h1) (by simpa using h2) hk
theorem bindC_get {kindOf : Str → Option NameKind} {x : Str} {v : Value} : ∀ {P : List Str} {vs : List Value} {i : Nat} {m : Str → Option Value}, P.Nodup → P[i]? = some x → vs[i]? = some v → kindOf x ≠ some .local →
    bindC kindOf (P.zip vs) m x = some v
  | [], _, _, _, _, h, _, _ => by simp at h
  | _ :: _, [], _, _, _, _, h, _ => by simp at h
  | p :: P, w :: vs, 0, m, nd, h1, h2, hk => by
    simp at h1 h2; subst h1; subst h2
    show bindC kindOf ((p, w) :: P.zip vs) m p = _
    unfold bindC
    rw [bindC_out fun v hv => (List.nodup_cons.mp nd).1 (List.of_mem_zip hv).1, if_neg hk]
    simp
  | p :: P, w :: vs, i + 1, m, nd, h1, h2, hk => by
    show bindC kindOf ((p, w) :: P.zip vs) m x = _
    unfold bindC
    exact bindC_get (i := i) (List.nodup_cons.mp nd).2 (by simpa using h1) (by simpa using h2) hk
def start (N : List Str) (vs : List V) : St := vs.map some ++ List.replicate (N.length - vs.length) none
def cxOf (CX : CXT) (P : Program) (w : World) (K : PySem.W.Frag) (mg : Str → Option Value) (base : Heap) (N : List Str) (qual : Str) (scope : Scope) (f : Addr) (cd : Value) (A : Around) (outer : List Env) (s : Shared) (H : Hp) (E : XK) : Cx where
  prog := P
  w := w
  K := K
  mg := mg
  base := base
  A := A.deeper (envOfC qual scope s.heap.objs.size f cd)
  N := N
  s_0 := s
  H_0 := H
  env := envOfC qual scope s.heap.objs.size f cd
  outer := outer
  stack := envOfC qual scope s.heap.objs.size f cd :: outer
  ex := []
  calm := true
  fn := fun _ => true
  pn := []
  xe := fun e s' => wpAny (model P w) (A.deeper (envOfC qual scope s.heap.objs.size f cd)) (leaving (envOfC qual scope s.heap.objs.size f cd) e) (fun _ s'' => CX outer H s E e s'') (fun e' s'' => CX outer H s E e' s'') s'
theorem cell_has {sc : Scope} {n : Nat} {x : Str} (h : sc.names.lookup x = some .cell) : ∃ c, (cellsFrom n sc.names []).lookup x = some c := by
  have q := PySem.W.cellsFrom_some sc.names n [] (.inl h)
  exact Option.isSome_iff_exists.mp q
theorem inv_start {CX : CXT} {P : Program} {w : World} {K : PySem.W.Frag} {mg : Str → Option Value} {base : Heap} {N ps : List Str} {qual : Str} {scope : Scope} {f : Addr} {cd : Value} {A : Around} {outer : List Env} {s s1 : Shared} {H : Hp} {E : XK} {us : List Value} {vs : List V}
    (S : FnScope N ps scope) (hd : A.handled = none) (e0 : Env0 P w K mg base A outer s H) (hl : vs.length = ps.length) (r : Vals vs us)
    (x : InCallC s s.heap.objs.size (bindL (envOfC qual scope s.heap.objs.size f cd).kindOf (ps.zip us) fun _ => none) (cellsFrom (s.heap.objs.size + 1) scope.names []) (bindC (envOfC qual scope s.heap.objs.size f cd).kindOf (ps.zip us) fun _ => none) s1) :
    Inv (cxOf CX P w K mg base N qual scope f cd A outer s H E) [] (start N vs) H s1 := by
  have hpl : ps.length ≤ N.length := by have := congrArg List.length S.pre; rw [List.length_take] at this; omega
  obtain ⟨h1, tk, rfl, hk⟩ := x.done
  have noA : ∀ b : Addr, b ∉ (cxOf CX P w K mg base N qual scope f cd A outer s H E).ex := fun b z => absurd (show b ∈ ([] : List Addr) from z) (by simp)
  refine ⟨⟨e0.mod, S.kind, rfl, rfl, Nat.le_refl _, fun y z c h1 h2 => ?_, fun y hy => ?_, fun y c _ h => ?_, fun _ => hd, Around.frames_deeper e0.frames, .inr ⟨rfl, rfl⟩, fun b z => absurd z (noA b), e0.bs, e0.bsz, fun b _ _ => noA b, fun b z => absurd z (noA b), e0.funs, e0.frf⟩,
    rfl, e0.bare, Un.kept hk, ⟨_, x.toInCall.ns, fun i y v h1 h2 h3 => ?_⟩, fun y c h => ⟨_, x.cell y c h⟩, e0.hok.fresh (Nat.le_refl _), fun y c h => ?_, fun p hp => absurd (show p ∈ ([] : List (Addr × Obj)) from hp) (by simp), e0.hok.kept hk, ?_⟩
  · exact name_of_addr x.apart (PySem.mem_of_lookup h1) (PySem.mem_of_lookup h2)
  · have hy : scope.names.lookup y = some .cell ∨ scope.names.lookup y = some .free := hy
    rcases hy with hy | hy
    · exact cell_has hy
    · exact absurd rfl (S.nofree _ (PySem.mem_of_lookup hy))
  · exact Nat.le_of_lt (x.above y c (PySem.mem_of_lookup h))
  · have hi : i < vs.length := by
      unfold start at h2
      by_cases hi : i < vs.length
      · exact hi
      · rw [List.getElem?_append_right (by simpa using hi)] at h2
        rw [List.getElem?_replicate] at h2
        split at h2 <;> cases h2
    have ha : vs[i]? = some v := by
      unfold start at h2
      rw [List.getElem?_append_left (by simpa using hi), List.getElem?_map] at h2
      cases e : vs[i]? with
      | none => rw [e] at h2; cases h2
      | some a => rw [e] at h2; cases h2; rfl
    obtain ⟨u, hu, rv⟩ := r.get ha
    have hp : ps[i]? = some y := by
      rw [← S.pre, List.getElem?_take_of_lt (by omega)]; exact h1
    have ndP : ps.Nodup := by rw [← S.pre]; exact S.nd.sublist (List.take_sublist _ _)
    refine ⟨u, rv, ?_⟩
    rcases S.par y (List.mem_of_getElem? hp) with k | k
    · exact .inl ⟨k, bindL_get ndP hp hu k⟩
    · obtain ⟨c, e⟩ := cell_has (n := s.heap.objs.size + 1) k
      refine .inr ⟨.inl k, c, e, ?_⟩
      have q := x.cell y c e
      rw [bindC_get ndP hp hu (by show scope.names.lookup y ≠ _; rw [k]; decide)] at q
      exact q
  · exact e0.hok.fresh (Nat.le_of_lt (x.above y c (PySem.mem_of_lookup h)))
  · unfold start
    show _ = N.length
    rw [List.length_append, List.length_map, List.length_replicate]
    omega
theorem fn_of {CX : CXT} {P : Program} {w : World} {K : PySem.W.Frag} {mg : Str → Option Value} {base : Heap} {k : Nat} {f : Addr} {name qual : Str} {params : Arguments} {body : List Stmt} {scope : Scope} {dV kV doc pm cdv ct oc : Value} {an od : Option Addr}
    {osl : Array (Option Value)} {N ps : List Str} {sp : Sp} (lk : K.lookup f = some ⟨oc, od, .func (PySem.W.fnOf name qual params body scope dV kV doc pm an cdv ct), osl⟩) (hcd : PySem.W.codeIn K cdv qual = true) (S : FnScope N ps scope)
    (len : ∀ vs H Q E, sp vs H Q E → vs.length = ps.length)
    (hbody : ∀ (A : Around) (outer : List Env) (s : Shared) (H : Hp) (vs : List V) (Q : VK) (E : XK), Room k (A.deeper (envOfC qual scope s.heap.objs.size f cdv)) → sp vs H Q E →
      ∃ t, PSs (cxOf CX P w K mg base N qual scope f cdv A outer s H E) body t ∧ t { nx := fun _ H' => Q .non H', rt := Q } (start N vs) H) :
    FnOk P w K mg base CX (k + 1) f (PySem.W.fnOf name qual params body scope dV kV doc pm an cdv ct) ps sp := by
  refine ⟨len, fun A outer s H args us vs Q E hr e0 hb r hsp => ?_⟩
  have hl := len _ _ _ _ hsp
  have KX : K.In s.heap := e0.mod.kin.keeps fun b o e => (e0.bs b o e).1
  have lim : s.heap.NoLimit := e0.mod.nolimit.keeps fun b o e => (e0.bs b o e).1
  have hkind : ∀ y ∈ ps.zip us, scope.names.lookup y.1 = some .local ∨ (scope.names.lookup y.1 = some .cell ∧ ((cellsFrom (s.heap.objs.size + 1) scope.names []).lookup y.1).isSome = true) := fun ⟨n, v⟩ hy => by
    rcases S.par n (List.of_mem_zip hy).1 with q | q
    · exact .inl q
    · exact .inr ⟨q, PySem.W.cellsFrom_some _ _ _ (.inl q)⟩
  refine codeAny_call_function hr.depth (KX _ _ lk) rfl S.co S.gen rfl (PySem.W.codeRec_of KX hcd) (hb _ _ _ _ ?_)
  refine wpAny_newFunctionEnv_cells S.kind hkind fun env he s1 x => ?_
  subst he
  refine ⟨lim.keeps x.toInCall.keep, codeAny_func ?_⟩
  obtain ⟨t, ht, hq⟩ := hbody A outer s H vs Q E (hr.deeper _) hsp
  have I : Inv (cxOf CX P w K mg base N qual scope f cdv A outer s H E) [] (start N vs) H s1 := inv_start S hr.hd e0 hl r x
  refine wpAny_mono (ht [] s1 (start N vs) H _ I hq) (fun fl s' hs => ?_) fun e s' hs => hs
  have fin : ∀ {σ' : St} {H' : Hp} {v : V} {u : Value}, Inv (cxOf CX P w K mg base N qual scope f cdv A outer s H E) [] σ' H' s' → RelV v u → Q v H' → CE outer P w H s Q u s' :=
    fun {σ' H' v u} J rv q => ⟨v, H', J.os, J.bare, J.base, J.hok, rv, q⟩
  cases fl with
  | ret u =>
    obtain ⟨v, σ', H', J, rv, q⟩ := hs
    exact fin J rv q
  | next =>
    obtain ⟨σ', H', J, q⟩ := hs
    exact fin (v := V.non) (u := Value.none) J rfl q
  | brk =>
    obtain ⟨_, _, _, q⟩ := hs
    exact False.elim q
  | cont =>
    obtain ⟨_, _, _, q⟩ := hs
    exact False.elim q
end L2
namespace L2
open PySem PySem.Spec PyProof.Rows
section
variable {X : Cx} {x : Str} {p pos : Pos} {e : Expr} {es : List Expr} {t : TA} {id T : String} {r : List V → Hp → VK → Prop}
def tCB (r : List V → Hp → VK → Prop) (t : TA) : TE := fun σ H Q => t σ H fun vs H1 => r vs H1 Q
theorem pe_callB (hc : CallR X (.builtin id) r) (hg : Gl X x) (hm : X.mg x = none) (hv : bootBuiltins x = some (.builtin id)) (ha : PA X (e :: es) t) (hn : x ≠ "__name__" := by decide) (hdb : (x == ("__debug__" : Str)) = false := by decide)
    (he : starEach (e :: es) X.env = (false, eval e X.env) :: starEach es X.env := by rfl) (hpl : (backTo pos (starEach es X.env)).any (·.1) = false := by rfl) : PE X (.Call (.Name x p) (e :: es) [] pos) (tCB r t) := by
  intro pins s σ H Q I h
  refine wpAny_Call_Name_kw (ld_blt I hg hm hv ?_ hn hdb)
  exact PyProof.Rows.callWith_builtin1 (thn (ha pos pins s σ H _ I h) fun us s1 ⟨vs, H1, I1, r1, q1⟩ => hc pins s1 σ H1 vs us Q I1 r1 q1) he hpl
end
end L2
namespace HT
open PySem PyProof.Rows
section
open PySem.SeqAt
open PySem.AutoSeq1 (wpAny_loadPart')
open PySem.MeetsSeq PySem.MeetsSeq2 PySem.MeetsSeq3
end
section
variable {prog : Program} {w : World} {A : Around} {E : Value → Shared → Prop} {s : Shared}
end
end HT
namespace L2
open PySem PySem.Spec PyProof.Rows
abbrev TO := St → Hp → (Option Int → Hp → Prop) → Prop
section
variable {X : Cx} {e : Expr} {te : TE} {lo hi : Option Expr} {tl th : TO} {pos p2 : Pos}
def SlR (X : Cx) (r : V → Option Int → Option Int → Hp → VK → Prop) : Prop :=
  ∀ (pins : List (Addr × Obj)) (s : Shared) (σ : St) (H : Hp) (x : V) (v vl vu : Value) (lo hi : Option Int) (sl : Addr) (Q : VK), Inv X pins σ H s → RelV x v → s.heap.IsSliceOf sl vl vu .none → IsPart vl lo → IsPart vu hi → r x lo hi H Q →
    ∃ T id, typeLookup (.type T) "__getitem__" = pure (some (.builtin id)) ∧ s.TypeIs v T ∧ wpAny (model X.prog X.w) X.A (getItem v (.ref sl)) (EP X pins σ Q) X.xe s
theorem SlR.or {r r' : V → Option Int → Option Int → Hp → VK → Prop} (h : SlR X r) (h' : SlR X r') : SlR X (fun x lo hi H Q => r x lo hi H Q ∨ r' x lo hi H Q) := by
  intro pins s σ H x v vl vu lo hi sl Q I rx hs pl pu q
  rcases q with q | q
  · exact h pins s σ H x v vl vu lo hi sl Q I rx hs pl pu q
  · exact h' pins s σ H x v vl vu lo hi sl Q I rx hs pl pu q
end
end L2
namespace L2
open PySem PySem.Spec PyProof.Rows
def ixN (n : Nat) (i : Int) : Option Nat := if 0 ≤ i then (if i < n then some i.toNat else none) else if -(n : Int) ≤ i then some (i + n).toNat else none
def atI {α : Type} (xs : List α) (i : Int) : Option α := (ixN xs.length i).bind fun j => xs[j]?
theorem ixN_seq {n : Nat} {i : Int} {j : Nat} (h : ixN n i = some j) : seqIndex? i n = some j ∧ j < n ∧ -(n : Int) ≤ i ∧ i < n := by
  unfold ixN at h
  by_cases h0 : 0 ≤ i
  · rw [if_pos h0] at h
    by_cases h1 : i < n
    · rw [if_pos h1] at h
      have e : i.toNat = j := Option.some.inj h
      exact ⟨by rw [seqIndex_of h0 h1, e], by omega, by omega, h1⟩
    · rw [if_neg h1] at h; cases h
  · rw [if_neg h0] at h
    by_cases h1 : -(n : Int) ≤ i
    · rw [if_pos h1] at h
      have e : (i + n).toNat = j := Option.some.inj h
      exact ⟨by rw [seqIndex_neg (by omega) h1, e], by omega, h1, by omega⟩
    · rw [if_neg h1] at h; cases h
theorem atI_get {α : Type} {xs : List α} {i : Int} {v : α} (h : atI xs i = some v) : ∃ j, seqIndex? i xs.length = some j ∧ xs[j]? = some v ∧ j < xs.length ∧ -(xs.length : Int) ≤ i ∧ i < xs.length := by
  unfold atI at h
  cases e : ixN xs.length i with
  | none => rw [e] at h; cases h
  | some j =>
    rw [e] at h
    obtain ⟨h1, h2, h3, h4⟩ := ixN_seq e
    exact ⟨j, h1, h, h2, h3, h4⟩
def PlainIx (b : Expr) : Prop := ∀ o i, subscripted b false o i = operate [o, i] (getItem o i)
def IxR (X : Cx) (r : R2) : Prop :=
  ∀ (value slice : Expr) (pins : List (Addr × Obj)) (s : Shared) (σ : St) (H : Hp) (x y : V) (v u : Value) (Q : VK), Inv X pins σ H s → RelV x v → RelV y u → r x y H Q →
    subscripted slice false v u = operate [v, u] (getItem v u) → wpAny (model X.prog X.w) X.A (subscriptTail value slice v u) (EP X pins σ Q) X.xe s
def MtR (X : Cx) (id : String) (r : V → List V → Hp → VK → Prop) : Prop :=
  ∀ (pins : List (Addr × Obj)) (s : Shared) (σ : St) (H : Hp) (x : V) (xs : List V) (v : Value) (us : List Value) (Q : VK), Inv X pins σ H s → RelV x v → Vals xs us → r x xs H Q →
    wpAny (model X.prog X.w) X.A (call (.builtin id) (v :: us)) (EP X pins σ Q) X.xe s
section
variable {X : Cx} {a b : Expr} {ta tb : TE} {pos : Pos}
theorem IxR.or {r r' : R2} (h : IxR X r) (h' : IxR X r') : IxR X (fun x y H Q => r x y H Q ∨ r' x y H Q) := by
  intro value slice pins s σ H x y v u Q I rx ry q hs
  rcases q with q | q
  · exact h value slice pins s σ H x y v u Q I rx ry q hs
  · exact h' value slice pins s σ H x y v u Q I rx ry q hs
theorem MtR.or {id : String} {r r' : V → List V → Hp → VK → Prop} (h : MtR X id r) (h' : MtR X id r') : MtR X id (fun x xs H Q => r x xs H Q ∨ r' x xs H Q) := by
  intro pins s σ H x xs v us Q I rx rs q
  rcases q with q | q
  · exact h pins s σ H x xs v us Q I rx rs q
  · exact h' pins s σ H x xs v us Q I rx rs q
theorem pe_ix {r : R2} (hr : IxR X r) (ha : PE X a ta) (hb : PE X b tb) (hs : PlainIx b) : PE X (.Subscript a b pos) (tOp r ta tb) := by
  intro pins s σ H Q I h
  exact Subscript_ (binT ha hb I h fun v u s2 x y H2 I2 rx ry q => hr a b pins s2 σ H2 x y v u Q I2 rx ry q (hs _ _))
def rIxL (K : PySem.W.Frag) : R2 := fun x y H Q => ∃ p xs i v, x = .ref p ∧ y = .int i ∧ SqL K H p xs ∧ atI xs i = some v ∧ Q v H
def rIxT (K : PySem.W.Frag) : R2 := fun x y H Q => ∃ p xs i v, x = .ref p ∧ y = .int i ∧ SqT K H p xs ∧ atI xs i = some v ∧ Q v H
def rIxS : R2 := fun x y H Q => ∃ z i c, x = .str z ∧ y = .int i ∧ z.length ≤ sizeLine ∧ atI z.cps.toList i = some c ∧ Q (.str ⟨#[c]⟩) H
theorem ix_list : IxR X (rIxL X.K) := by
  intro value slice pins s σ H x y v u Q I rx ry h hs
  obtain ⟨p, xs, i, z, rfl, rfl, hq, he, q⟩ := h
  cases rx
  obtain ⟨t, rfl⟩ := ry
  obtain ⟨its, r, pl, hz⟩ := I.list hq
  obtain ⟨j, h1, h2, h3, h4, h5⟩ := atI_get he
  obtain ⟨w, ew, rw'⟩ := r.get h2
  have hl := r.length
  have hn := line63
  have fin : EP X pins σ Q w s := ⟨z, H, I, rw', q⟩
  by_cases h0 : 0 ≤ i
  · have hj : i.toNat = j := by
      rw [seqIndex_of h0 h5] at h1
      exact Option.some.inj h1
    exact item_listR pl.isList h0 (by omega) (by rw [hj]; simpa using ew) fin hs
  · have hj : (i + (its.toArray.size : Int)).toNat = j := by
      rw [seqIndex_neg (by omega) h4] at h1
      rw [List.size_toArray, ← hl]
      exact Option.some.inj h1
    exact subscriptTail_builtinR (x := w) pl.isList.typeIs slot_list_getitem.lookup
      (wpAny_getItem_list_neg (Q := fun r s' => r = w ∧ EP X pins σ Q r s') pl.isList (by omega) (by rw [List.size_toArray] <;> omega) (by omega) (by rw [hj]; simpa using ew) ⟨rfl, fin⟩) hs
theorem ix_tup : IxR X (rIxT X.K) := by
  intro value slice pins s σ H x y v u Q I rx ry h hs
  obtain ⟨p, xs, i, z, rfl, rfl, hq, he, q⟩ := h
  cases rx
  obtain ⟨t, rfl⟩ := ry
  obtain ⟨its, r, pl, hz⟩ := I.tuple hq
  obtain ⟨j, h1, h2, h3, h4, h5⟩ := atI_get he
  obtain ⟨w, ew, rw'⟩ := r.get h2
  have hl := r.length
  have hn := line63
  have fin : EP X pins σ Q w s := ⟨z, H, I, rw', q⟩
  exact subscriptTail_builtinR (x := w) pl.typeIs slot_tuple_getitem.lookup
    (getItem_tuple (j := j) (Q := fun r s' => r = w ∧ EP X pins σ Q r s') pl (by omega) (by omega) (by rw [List.size_toArray, ← hl]; exact h1) (by simpa using ew) ⟨rfl, fin⟩) hs
theorem ix_str : IxR X rIxS := by
  intro value slice pins s σ H x y v u Q I rx ry h hs
  obtain ⟨z, i, c, rfl, rfl, hz, he, q⟩ := h
  obtain ⟨t, rfl⟩ := rx
  obtain ⟨t', rfl⟩ := ry
  obtain ⟨j, h1, h2, h3, h4, h5⟩ := atI_get he
  have hl : z.cps.toList.length = z.length := by simp [Str.length]
  rw [hl] at h1 h4 h5
  have hn := line63
  exact tail_any (typeIs_str s z t) slot_str_getitem.lookup (getItem_str (c := c) (by
    have e1 : decide (i < -(2 ^ 63 : Int)) = false := decide_eq_false (by omega)
    have e2 : decide (i ≥ 2 ^ 63) = false := decide_eq_false (by omega)
    rw [e1, e2, Bool.or_false]) (by rw [h1]; simpa using h2) ⟨.str ⟨#[c]⟩, H, I.tok _, ⟨_, rfl⟩, q⟩) hs
def rIx (K : PySem.W.Frag) : R2 := fun x y H Q => rIxL K x y H Q ∨ rIxT K x y H Q ∨ rIxS x y H Q
theorem ix_seq : IxR X (rIx X.K) := ix_list.or (ix_tup.or ix_str)
theorem Inv.lst {pins : List (Addr × Obj)} {σ : St} {H : Hp} {s : Shared} {p : Addr} {xs : List V} (I : Inv X pins σ H s) (h : H p = some (.lst xs)) :
    ∃ (its : List Value) (n : Nat), Vals xs its ∧ s.heap.get? p = some { cls := .type "list", data := .seq its.toArray n } ∧ xs.length ≤ sizeLine := by
  obtain ⟨z, its, n, r, e⟩ := I.hok p _ h
  exact ⟨its, n, r, e, z⟩
def flatV : V → Bool
  | .non => true
  | .bl _ => true
  | .int _ => true
  | .str _ => true
  | _ => false
def eqV : V → V → Bool
  | .non, .non => true
  | .bl a, .bl b => a == b
  | .bl a, .int b => (if a then 1 else 0) == b
  | .int a, .bl b => a == (if b then 1 else 0)
  | .int a, .int b => a == b
  | .str a, .str b => a == b
  | _, _ => false
theorem eqAt_V {A : Around} {s : Shared} {y x : V} {u v : Value} (ry : RelV y u) (rx : RelV x v) (fy : flatV y = true) (fx : flatV x = true) : SeqAt.EqAt A s u v (eqV y x) := by
  cases y with
  | non =>
    cases ry
    cases x with
    | non => cases rx; exact SeqAt.EqAt.same _
    | bl b => cases rx; exact SeqAt.EqAt.none_bool b
    | int b => obtain ⟨t, rfl⟩ := rx; exact SeqAt.EqAt.none_int b t
    | str b => obtain ⟨t, rfl⟩ := rx; exact SeqAt.EqAt.none_str b t
    | _ => exact absurd (show false = true from fx) Bool.false_ne_true
  | bl a =>
    cases ry
    cases x with
    | non => cases rx; exact SeqAt.EqAt.bool_none a
    | bl b => cases rx; exact SeqAt.EqAt.bool_bool a b
    | int b => obtain ⟨t, rfl⟩ := rx; exact SeqAt.EqAt.bool_int a b t
    | str b => obtain ⟨t, rfl⟩ := rx; exact SeqAt.EqAt.bool_str a b t
    | _ => exact absurd (show false = true from fx) Bool.false_ne_true
  | int a =>
    obtain ⟨t', rfl⟩ := ry
    cases x with
    | non => cases rx; exact SeqAt.EqAt.int_none a t'
    | bl b => cases rx; exact SeqAt.EqAt.int_bool a t' b
    | int b => obtain ⟨t, rfl⟩ := rx; exact SeqAt.EqAt.int_int a t' b t
    | str b => obtain ⟨t, rfl⟩ := rx; exact SeqAt.EqAt.int_str a t' b t
    | _ => exact absurd (show false = true from fx) Bool.false_ne_true
  | str a =>
    obtain ⟨t', rfl⟩ := ry
    cases x with
    | non => cases rx; exact SeqAt.EqAt.str_none a t'
    | bl b => cases rx; exact SeqAt.EqAt.str_bool a t' b
    | int b => obtain ⟨t, rfl⟩ := rx; exact SeqAt.EqAt.str_int a t' b t
    | str b => obtain ⟨t, rfl⟩ := rx; exact SeqAt.EqAt.str_str a t' b t
    | _ => exact absurd (show false = true from fx) Bool.false_ne_true
  | _ => exact absurd (show false = true from fy) Bool.false_ne_true
def eqU (x : V) (u : Value) : Bool := match u with
  | .none => eqV .non x
  | .bool b => eqV (.bl b) x
  | .int i _ => eqV (.int i) x
  | .str z _ => eqV (.str z) x
  | _ => false
theorem eqU_of {x y : V} {u : Value} (r : RelV y u) (f : flatV y = true) : eqU x u = eqV y x := by
  cases y with
  | non => cases r; rfl
  | bl b => cases r; rfl
  | int i => obtain ⟨t, rfl⟩ := r; rfl
  | str z => obtain ⟨t, rfl⟩ := r; rfl
  | _ => exact absurd (show false = true from f) Bool.false_ne_true
theorem any_eqU {x : V} : ∀ {xs : List V} {us : List Value}, Vals xs us → xs.all flatV = true → us.any (eqU x) = xs.any fun y => eqV y x
  | _, _, .nil, _ => rfl
  | y :: xs, u :: us, .cons r t, f => by
    rw [List.all_cons, Bool.and_eq_true] at f
    rw [List.any_cons, List.any_cons, eqU_of r f.1, any_eqU t f.2]
theorem mem_eqAt {A : Around} {s : Shared} {x : V} {v : Value} (rx : RelV x v) (fx : flatV x = true) : ∀ {xs : List V} {us : List Value}, Vals xs us → xs.all flatV = true → ∀ u ∈ us, SeqAt.EqAt A s u v (eqU x u)
  | _, _, .nil, _ => fun u hu => by cases hu
  | y :: xs, u :: us, .cons r t, f => fun u' hu => by
    rw [List.all_cons, Bool.and_eq_true] at f
    rcases List.mem_cons.mp hu with rfl | hu
    · rw [eqU_of r f.1]; exact eqAt_V r rx f.1 fx
    · exact mem_eqAt rx fx t f.2 u' hu
def inV (x : V) (xs : List V) : Bool := xs.any fun y => eqV y x
def rIn (K : PySem.W.Frag) (neg : Bool) : R2 := fun x y H Q => ∃ p xs, y = .ref p ∧ (SqL K H p xs ∨ SqT K H p xs) ∧ flatV x = true ∧ xs.all flatV = true ∧ Q (.bl (if neg then !inV x xs else inV x xs)) H
theorem op_in_seq : OpR X (compareOp .In) (rIn X.K false) := by
  intro pins s σ H x y v u Q I rx ry h
  obtain ⟨p, xs, rfl, hq, fx, fs, q⟩ := h
  cases ry
  rcases hq with hq | hq
  · obtain ⟨its, r, pl, hz⟩ := I.list hq
    refine SeqAt.in_listAt (eqU x) pl.isList (fun w hw => mem_eqAt rx fx r fs w (by simpa using hw)) ⟨.bl _, H, I, rfl, ?_⟩
    rw [show its.toArray.any (eqU x) = its.any (eqU x) by simp, any_eqU r fs]
    exact q
  · obtain ⟨its, r, pl, hz⟩ := I.tuple hq
    refine SeqAt.in_tupleAt (eqU x) pl (fun w hw => mem_eqAt rx fx r fs w (by simpa using hw)) ⟨.bl _, H, I, rfl, ?_⟩
    rw [show its.toArray.any (eqU x) = its.any (eqU x) by simp, any_eqU r fs]
    exact q
theorem call_len_seq : CallR X (.builtin "len") (fun xs H Q => ∃ p ys, xs = [.ref p] ∧ (SqL X.K H p ys ∨ SqT X.K H p ys) ∧ Q (.int ys.length) H) := by
  intro pins s σ H xs us Q I r h
  obtain ⟨p, ys, rfl, hq, q⟩ := h
  obtain ⟨u, rfl, rx⟩ := vals1 r
  cases rx
  have hn := line63
  rcases hq with hq | hq
  · obtain ⟨its, r', pl, hz⟩ := I.list hq
    have hlen := r'.length
    exact Calls.call_len_list pl.isList (by simp only [List.size_toArray] <;> omega) ⟨.int ys.length, H, I.tok _, ⟨s.toks + 1, by rw [List.size_toArray, hlen]⟩, q⟩
  · obtain ⟨its, r', pl, hz⟩ := I.tuple hq
    have hlen := r'.length
    exact len_tuple pl (by simp only [List.size_toArray] <;> omega) ⟨.int ys.length, H, I.tok _, ⟨s.toks + 1, by rw [List.size_toArray, hlen]⟩, q⟩
theorem CallR.or {f : Value} {r r' : List V → Hp → VK → Prop} (h : CallR X f r) (h' : CallR X f r') : CallR X f (fun xs H Q => r xs H Q ∨ r' xs H Q) := by
  intro pins s σ H xs us Q I rs q
  rcases q with q | q
  · exact h pins s σ H xs us Q I rs q
  · exact h' pins s σ H xs us Q I rs q
def tyV (K : PySem.W.Frag) (T : String) (x : V) (H : Hp) : Prop := match x with
  | .str _ => T = "str"
  | .int _ => T = "int"
  | .ref p => (T = "list" ∧ ∃ xs, SqL K H p xs) ∨ (T = "tuple" ∧ ∃ o, K.lookup p = some o ∧ o.cls = .type "tuple" ∧ o.dict = none) ∨
      (T = "dict" ∧ ((∃ kvs, H p = some (.dK kvs)) ∨ ∃ kvs, H p = some (.dT kvs))) ∨ (T = "set" ∧ ∃ S n, H p = some (.set S n))
  | _ => False
theorem tyV_is {pins : List (Addr × Obj)} {σ : St} {H : Hp} {s : Shared} {T : String} {x : V} {v : Value} (I : Inv X pins σ H s) (r : RelV x v) (ty : tyV X.K T x H) :
    s.TypeIs v T ∧ ∀ a, v = .ref a → ∃ ob, s.heap.get? a = some ob ∧ ob.dict = none := by
  cases x with
  | str z =>
    obtain ⟨t, rfl⟩ := r
    cases (show T = "str" from ty)
    exact ⟨typeIs_str s z t, fun _ e => nomatch e⟩
  | int i =>
    obtain ⟨t, rfl⟩ := r
    cases (show T = "int" from ty)
    exact ⟨typeIs_int s i t, fun _ e => nomatch e⟩
  | ref p =>
    cases r
    rcases ty with ⟨rfl, xs, hq⟩ | ⟨rfl, o, hk, hc, hd⟩ | ⟨rfl, hk⟩ | ⟨rfl, S, n, hk⟩
    · obtain ⟨its, _, pl, _⟩ := I.list hq
      refine ⟨pl.isList.typeIs, fun a e => ?_⟩
      cases e
      obtain ⟨o, n, e, c, hd, _⟩ := pl
      exact ⟨o, e, hd⟩
    · refine ⟨⟨o, I.kIn p o hk, hc⟩, fun a e => ?_⟩
      cases e
      exact ⟨o, I.kIn _ o hk, hd⟩
    · have z : ∃ o, s.heap.get? p = some o ∧ o.ExactDict := by
        rcases hk with ⟨kvs, hk⟩ | ⟨kvs, hk⟩
        · obtain ⟨_, _, _, _, o, _, _, e, ex, _⟩ := I.hok p _ hk
          exact ⟨o, e, ex⟩
        · obtain ⟨_, _, _, _, o, _, _, e, ex, _⟩ := I.hok p _ hk
          exact ⟨o, e, ex⟩
      obtain ⟨o, e, ex⟩ := z
      refine ⟨⟨o, e, ex.1⟩, fun a e2 => ?_⟩
      cases e2
      exact ⟨o, e, ex.2.1⟩
    · obtain ⟨o, _, _, _, e, ex, _⟩ := I.hok p _ hk
      refine ⟨⟨o, e, ex.1⟩, fun a e2 => ?_⟩
      cases e2
      exact ⟨o, e, ex.2.1⟩
  | _ => exact False.elim ty
def tBM (K : PySem.W.Frag) (T : String) (r : V → List V → Hp → VK → Prop) (to : TE) (t : TA) : TE := fun σ H Q => to σ H fun x H1 => tyV K T x H1 ∧ t σ H1 fun xs H2 => r x xs H2 Q
variable {o e : Expr} {es : List Expr} {to : TE} {t : TA} {name : Str} {apos cpos : Pos} {T id : String} {r : V → List V → Hp → VK → Prop}
theorem pe_bm (pa : PlainAttrs T) (slot : Slot T name id) (hty : typeOf (.builtin id) = pure (.type "method_descriptor")) (hm : MtR X id r) (ho : PE X o to) (ha : PA X (e :: es) t)
    (hbase : attributeBase o name X.env (eval o X.env) = eval o X.env := by rfl)
    (hfew : ((backTo cpos (starEach (e :: es) X.env)).all (fun x => !x.1) && (backToKw cpos (keywordEach [] X.env)).all (fun x => x.1.isSome)
      && decide ((e :: es).length + ([] : List Keyword).length + (if ([] : List Keyword).isEmpty then 0 else 1) < 30)) = true := by rfl)
    (hline : (apos.endLine == cpos.line) = true := by rfl) (hs : starEach (e :: es) X.env = (false, eval e X.env) :: starEach es X.env := by rfl) (hplain : (backTo cpos (starEach es X.env)).any (·.1) = false := by rfl) :
    PE X (.Call (.Attribute o name apos) (e :: es) [] cpos) (tBM X.K T r to t) := by
  intro pins s σ H Q I h
  refine wpAny_Call_method_late hbase hfew hline rfl (thn (ho pins s σ H _ I h) fun v s1 ⟨x, H1, I1, r1, ty, q1⟩ => ?_)
  obtain ⟨h1, h2⟩ := tyV_is I1 r1 ty
  refine ⟨T, id, pa, slot, hty, h1, h2, ?_⟩
  have hA := ha cpos pins s1 σ H1 _ I1 q1
  rw [hs] at hA ⊢
  refine Calls.callWith_builtin (by show (false || (backTo cpos (starEach es X.env)).any (·.1)) = false; rw [hplain] <;> rfl) (Calls.evalArgs_plain ?_)
  exact thn hA fun us s2 ⟨vs, H2, I2, r2, q2⟩ => hm pins s2 σ H2 x vs v us Q I2 r1 r2 q2
end
end L2
namespace L2
open PySem PySem.Spec PyProof.Rows
theorem Vals.one : ∀ {x : V} {us : List Value}, Vals [x] us → ∃ u, us = [u] ∧ RelV x u
  | _, _, .cons r .nil => ⟨_, rfl, r⟩
theorem Vals.zero : ∀ {us : List Value}, Vals [] us → us = []
  | _, .nil => rfl
theorem Vals.rep {xs : List V} {us : List Value} (h : Vals xs us) : ∀ k : Nat, Vals (List.replicate k xs).flatten (List.replicate k us).flatten
  | 0 => .nil
  | k + 1 => by
    rw [List.replicate_succ, List.replicate_succ, List.flatten_cons, List.flatten_cons]
    exact Vals.append h (Vals.rep h k)
theorem foldl_rep (its : List Value) : ∀ (k : Nat) (acc : List Value),
    List.foldl (fun x1 x2 => x1 ++ x2) acc.toArray (List.replicate k its.toArray) = (acc ++ (List.replicate k its).flatten).toArray
  | 0, acc => by simp
  | k + 1, acc => by
    have e : acc.toArray ++ its.toArray = (acc ++ its).toArray := by simp
    have e2 : (acc ++ its) ++ (List.replicate k its).flatten = acc ++ (List.replicate (k + 1) its).flatten := by
      rw [List.replicate_succ, List.flatten_cons, List.append_assoc]
    rw [← e2, ← foldl_rep its k (acc ++ its), ← e, List.replicate_succ, List.foldl_cons]
section
variable {X : Cx} {pins : List (Addr × Obj)} {σ : St} {H : Hp} {s : Shared} {l b : Addr} {xs ys zs : List V}
theorem Inv.lnew {its : List Value} {t' : Nat} (I : Inv X pins σ H s) (hv : Vals ys its) (hz : ys.length ≤ sizeLine) :
    Inv X pins σ (upd H s.heap.objs.size (.lst ys)) { s with heap := s.heap.push { cls := .type "list", data := .seq its.toArray }, toks := t' } :=
  I.laid (fun _ _ q => Heap.get?_push_of_some _ q) (Nat.le_refl _) ⟨hz, its, 0, hv, Heap.get?_push_size _ rfl⟩
theorem Inv.fresh (I : Inv X pins σ H s) : H s.heap.objs.size = none := I.hok.fresh (Nat.le_refl _)
theorem Inv.lstM (I : Inv X pins σ H s) (hH : H l = some (.lst xs)) : xs.length ≤ sizeLine ∧ ∃ (its : List Value) (n : Nat), Vals xs its ∧ xs.length = its.length ∧ s.heap.get? l = some { cls := .type "list", data := .seq its.toArray n } := by
  obtain ⟨z, its, n, r, e⟩ := I.hok l _ hH
  exact ⟨z, its, n, r, r.length, e⟩
theorem notLongL {n : Nat} (h : n ≤ sizeLine) : Builtin.List.listTooLong n = false := by
  unfold Builtin.List.listTooLong
  exact decide_eq_false (by omega)
end
section
variable {X : Cx}
def rRep : R2 := fun x y H Q => ∃ l k xs, x = .ref l ∧ y = .int k ∧ H l = some (.lst xs) ∧ -(2 ^ 63) ≤ k ∧ k < 2 ^ 63 ∧ xs.length * k.toNat ≤ sizeLine ∧
  ∀ p, H p = none → Q (.ref p) (upd H p (.lst (List.replicate k.toNat xs).flatten))
theorem len_rep {α : Type} (xs : List α) (k : Nat) : (List.replicate k xs).flatten.length = k * xs.length := by
  induction k with
  | zero => simp
  | succ k ih => rw [List.replicate_succ, List.flatten_cons, List.length_append, ih, Nat.succ_mul, Nat.add_comm]
theorem op_rep : OpR X (binaryOp .Mult) rRep := by
  intro pins s σ H x y v u Q I rx ry h
  obtain ⟨l, k, xs, rfl, rfl, hH, h1, h2, hz, q⟩ := h
  cases rx
  obtain ⟨t, rfl⟩ := ry
  obtain ⟨z, its, n, r, hl, e⟩ := I.lstM hH
  have hlen : its.toArray.size * k.toNat ≤ sizeLine := by rw [List.size_toArray, ← hl]; exact hz
  have hcap : ¬ its.toArray.size * k.toNat > (2 ^ 63 - 1) / 8 := by
    have : (sizeLine : Nat) ≤ (2 ^ 63 - 1) / 8 := by decide
    omega
  have hfit : ¬ (!Builtin.List.listFitsIndex k) = true := by
    rw [fitsIndex_both h1 h2]
    exact Bool.false_ne_true
  have hlong : ¬ Builtin.List.listTooLong (its.toArray.size * k.toNat) = true := by
    rw [notLongL hlen]
    exact Bool.false_ne_true
  have hnew : List.foldl (fun x1 x2 => x1 ++ x2) #[] (List.replicate (if its.toArray.isEmpty = true then 0 else k.toNat) its.toArray) = (List.replicate k.toNat its).flatten.toArray := by
    have f0 : ∀ m : Nat, List.foldl (fun x1 x2 => x1 ++ x2) #[] (List.replicate m its.toArray) = (List.replicate m its).flatten.toArray := fun m => by
      have := foldl_rep its m []
      rw [List.nil_append] at this
      exact this
    rw [f0]
    cases its with
    | nil => simp
    | cons a r' => rw [if_neg (by simp)]
  refine wpAny_binaryOp_repeat_ref (T := "list") (U := "int") (by decide) ⟨_, e, rfl⟩ (fun s' => typeIs_int s' k t) noFill_list_mul F.fills_int_mul F.slot_int_rmul repeat_list F.slot_int_index.lookup
    (call_meets F.slot_int_rmul (typeIs_int s k t) F.entry_int_rmul (F.args_int_rmul_2 _ _) (int___rmul___int_list k t l its.toArray n)
      ⟨e, rfl, ⟨_, e, rfl⟩, call_meets F.slot_list_mul ⟨_, e, rfl⟩ F.entry_list_mul (F.args_list_mul_2 _ _) (AutoListH.list___mul___list_int_3 l its.toArray n k t hfit hcap hlong) ⟨e, ?_⟩⟩)
  rw [hnew]
  exact ⟨.ref _, _, I.lnew (t' := s.toks) (r.rep k.toNat) (by rw [len_rep, Nat.mul_comm]; exact hz), rfl, q _ I.fresh⟩
end
section
variable {prog : Program} {w : World} {A : Around} {E : Value → Shared → Prop} {s : Shared}
set_option maxRecDepth 100000 in
end
section
variable {X : Cx}
end
end L2
namespace L2
open PySem PySem.Spec PyProof.Rows
theorem Vals.strs : ∀ {xs : List Str} {us : List Value}, Vals (xs.map V.str) us → StrsAre us xs
  | [], us, h => by
    rw [List.map_nil] at h
    cases h
    exact StrsAre.nil
  | x :: xs, us, h => by
    rw [List.map_cons] at h
    cases h with
    | cons r t =>
      obtain ⟨k, rfl⟩ := r
      exact StrsAre.cons x k (Vals.strs t)
theorem Vals.bls : ∀ {bs : List Bool} {us : List Value}, Vals (bs.map V.bl) us → us = bs.map Value.bool
  | [], us, h => by
    rw [List.map_nil] at h
    cases h
    rfl
  | b :: bs, us, h => by
    rw [List.map_cons] at h
    cases h with
    | cons r t =>
      cases r
      rw [Vals.bls t, List.map_cons]
theorem Vals.ref1 {a : Addr} {us : List Value} (r : Vals [V.ref a] us) : us = [Value.ref a] := by
  cases r with
  | cons r t =>
    cases t
    cases r
    rfl
section
variable {prog : Program} {w : World} {A : Around} {E : Value → Shared → Prop} {s : Shared} {l : Addr} {its : List Value} {ns : List Int} {Q : Value → Shared → Prop}
end
section
variable {X : Cx}
end
section
variable {X : Cx}
def rIndex (K : PySem.W.Frag) : V → List V → Hp → VK → Prop := fun x xs H Q => ∃ (a : Addr) (ys : List V) (y : V) (j : Nat) (z : V), x = V.ref a ∧ xs = [y] ∧ SqL K H a ys ∧ flatV y = true ∧ ys.all flatV = true ∧ ys[j]? = some z ∧ eqV z y = true ∧
  (∀ (m : Nat) (z' : V), m < j → ys[m]? = some z' → eqV z' y = false) ∧ Q (.int (j : Nat)) H
theorem flat_at {ys : List V} (f : ys.all flatV = true) {j : Nat} {z : V} (h : ys[j]? = some z) : flatV z = true := List.all_eq_true.mp f z (List.mem_of_getElem? h)
theorem mt_index : MtR X "list.index" (rIndex X.K) := by
  intro pins s σ H x xs v us Q I rx rxs h
  obtain ⟨a, ys, y, j, z, rfl, rfl, hs, fy, fys, hz, hzj, hno, q⟩ := h
  cases rx
  cases rxs with
  | cons ry rt =>
    rename_i uy ut
    cases rt
    obtain ⟨its, rv, ⟨⟨cls, dd, data, sl⟩, n, ho, hc, hdn, hd⟩, hlen⟩ := I.list hs
    simp only at hc hd
    subst hc hd
    obtain ⟨u, hu, ru⟩ := rv.get hz
    obtain ⟨hjl, hje⟩ := List.getElem?_eq_some_iff.mp hu
    have hvl := rv.length
    have hj : j < its.toArray.size := by simpa using hjl
    have hsl := sizeLine_eq
    refine call_meets PySem.F.slot_list_index ⟨_, ho, rfl⟩ PySem.F.entry_list_index (PySem.F.args_list_index_2 _ _)
      (SeqAt.list_indexAt a its.toArray n dd sl uy (eqU y) j hj (by omega) ?_ ?_) ⟨ho, fun u' hu' => mem_eqAt ry fy rv fys u' (by simpa using hu'), ?_⟩
    · have e1 : its.toArray[j] = u := by simpa using hje
      rw [e1, eqU_of ru (flat_at fys hz)]
      exact hzj
    · intro m hm hmj
      have hml : m < its.length := by simpa using hm
      have hmy : m < ys.length := by omega
      have hy' : ys[m]? = some ys[m] := List.getElem?_eq_getElem hmy
      obtain ⟨u2, hu2, ru2⟩ := rv.get hy'
      obtain ⟨_, hme⟩ := List.getElem?_eq_some_iff.mp hu2
      have e1 : its.toArray[m] = u2 := by simpa using hme
      rw [e1, eqU_of ru2 (flat_at fys hy')]
      exact hno m _ hmj hy'
    · exact ⟨.int (j : Nat), H, I.tok _, ⟨_, rfl⟩, q⟩
end
section
variable {X : Cx}
end
theorem iter_any {prog : Program} {w : World} {A : Around} {E : Value → Shared → Prop} {s : Shared} {l : Addr} {items : Array Value} {Q : Value → Shared → Prop} (hl : s.heap.IsList l items)
    (h : ∀ s₂ : Shared, s₂ = { s with heap := s.heap.push { cls := .type "list_iterator", data := .fields #[.ref l, .int 0 0] } } →
      (s₂.heap.IsListIter s.heap.objs.size l 0 ∧ s₂.heap.IsList l items) → l ≠ s.heap.objs.size → Q (.ref s.heap.objs.size) s₂) : wpAny (model prog w) A (pyIter (.ref l)) Q E s := by
  have hlt : l < s.heap.objs.size := by obtain ⟨_, e, _⟩ := hl; exact Heap.lt_size e
  exact wpAny_pyIter_list hl (h _ rfl ⟨⟨_, Heap.get?_push_size _ rfl, rfl, rfl⟩, hl.push _⟩ (Nat.ne_of_lt hlt))
theorem truth_bools {prog : Program} {w : World} {A : Around} {bs : List Bool} {its : List Value} (e : its = bs.map Value.bool) :
    TruthOf prog w A (fun i v => its.toArray[i]? = some v) (fun i => bs.getD i false) := fun i v s Q E hv hq => by
  have hv' : its[i]? = some v := by simpa using hv
  rw [e, List.getElem?_map] at hv'
  obtain ⟨b, hb, rfl⟩ := Option.map_eq_some_iff.mp hv'
  have hg : bs.getD i false = b := by rw [List.getD_eq_getElem?_getD, hb] <;> rfl
  have hq' : Q (bs.getD i false) s := hq
  rw [hg] at hq'
  exact wpAny_truthy_bool hq'
theorem all_range : ∀ bs : List Bool, (List.range bs.length).all (fun i => bs.getD i false) = bs.all id
  | [] => rfl
  | b :: bs => by
    rw [List.length_cons, List.range_succ_eq_map, List.all_cons, List.all_map, List.all_cons, ← all_range bs]
    all_goals rfl
section
variable {X : Cx}
def rAll (K : PySem.W.Frag) : List V → Hp → VK → Prop := fun vs H Q => ∃ (a : Addr) (bs : List Bool), vs = [V.ref a] ∧ SqL K H a (bs.map V.bl) ∧ Q (.bl (bs.all id)) H
theorem cr_all (hc : X.calm = true) : CallR X (.builtin "all") (rAll X.K) := by
  intro pins s σ H vs us Q I r h
  obtain ⟨a, bs, rfl, hs, q⟩ := h
  obtain ⟨its, rv, hl, _⟩ := I.list hs
  rw [Vals.ref1 r]
  have hb := rv.bls
  refine call_all_walk (iter_any hl.isList fun s₂ e2 st hne => ?_)
  subst e2
  refine ⟨_, _, _, _, _, _, _, rfl, Walks.list (A := X.A.in1) (I.ok.hd hc) _ a hne its.toArray, st, truth_bools hb, fun h' tk hk => ?_⟩
  refine ⟨.bl _, H, I.kept fun b o eo => hk b o (fun hmem => ?_) (Heap.get?_push_of_some _ eo), ?_, q⟩
  · rcases List.mem_cons.mp hmem with e1 | hmem
    · exact absurd (e1 ▸ Heap.lt_size eo) (Nat.lt_irrefl _)
    · cases hmem
  · show Value.bool _ = Value.bool _
    rw [← all_range, hb, List.size_toArray, List.length_map]
end
mutual
inductive Dp (K : PySem.W.Frag) (H : Hp) : V → PyData → Prop
  | non : Dp K H .non .none
  | bl (b : Bool) : Dp K H (.bl b) (.bool b)
  | int (i : Int) : Dp K H (.int i) (.int i)
  | str (x : Str) : Dp K H (.str x) (.str x)
  | lst {a : Addr} {xs : List V} {ds : List PyData} : SqL K H a xs → DpAll K H xs ds → Dp K H (.ref a) (.list ds)
  | tup {a : Addr} {xs : List V} {ds : List PyData} : SqT K H a xs → DpAll K H xs ds → Dp K H (.ref a) (.tuple ds)
inductive DpAll (K : PySem.W.Frag) (H : Hp) : List V → List PyData → Prop
  | nil : DpAll K H [] []
  | cons {v : V} {vs : List V} {d : PyData} {ds : List PyData} : Dp K H v d → DpAll K H vs ds → DpAll K H (v :: vs) (d :: ds)
end
section
variable {X : Cx} {pins : List (Addr × Obj)} {σ : St} {H : Hp} {s : Shared}
mutual
theorem Dp.reads (I : Inv X pins σ H s) : ∀ (d : PyData) (v : V) (u : Value), Dp X.K H v d → RelV v u → ∃ as, Reads s.heap u d as
  | .none, _, _, h, r => by
    cases h
    cases r
    exact ⟨_, Reads.none⟩
  | .bool b, _, _, h, r => by
    cases h
    cases r
    exact ⟨_, Reads.bool b⟩
  | .int i, _, _, h, r => by
    cases h
    obtain ⟨t, rfl⟩ := r
    exact ⟨_, Reads.int i t⟩
  | .str x, _, _, h, r => by
    cases h
    obtain ⟨t, rfl⟩ := r
    exact ⟨_, Reads.str x t⟩
  | .list ds, _, _, h, r => by
    cases h with
    | lst hs ha =>
      cases r
      obtain ⟨its, rv, ⟨o, n, ho, hc, _, hd⟩, _⟩ := I.list hs
      obtain ⟨as, hr⟩ := Dp.readsAll I ds _ its ha rv
      exact ⟨_, Reads.list ho hc hd hr⟩
  | .tuple ds, _, _, h, r => by
    cases h with
    | tup hs ha =>
      cases r
      obtain ⟨its, rv, ⟨o, ho, hc, n, hd⟩, _⟩ := I.tuple hs
      obtain ⟨as, hr⟩ := Dp.readsAll I ds _ its ha rv
      exact ⟨_, Reads.tuple ho hc hd hr⟩
  | .dict _, _, _, h, _ => by cases h
theorem Dp.readsAll (I : Inv X pins σ H s) : ∀ (ds : List PyData) (vs : List V) (us : List Value), DpAll X.K H vs ds → Vals vs us → ∃ as, ReadsAll s.heap us ds as
  | [], _, _, h, r => by
    cases h
    cases r
    exact ⟨_, ReadsAll.nil⟩
  | d :: ds, _, _, h, r => by
    cases h with
    | cons h1 h2 =>
      cases r with
      | cons r1 r2 =>
        obtain ⟨as, q1⟩ := Dp.reads I d _ _ h1 r1
        obtain ⟨bs, q2⟩ := Dp.readsAll I ds _ _ h2 r2
        exact ⟨_, ReadsAll.cons q1 q2⟩
end
end
section
variable {X : Cx}
end
end L2
namespace L2
open PySem PySem.Spec PyProof.Rows
abbrev CellAt (h : Heap) (c : Addr) (v : Option Value) : Prop := h.IsCell c v
def relS (scope sc : Scope) : Scope :=
  { scope with names := scope.names.map fun (n, k) => if (k == .free && sc.kind == .function && sc.names.lookup n == some .cell) then (n, .cell) else (n, k) }
def cloFrom (cells : List (Str × Addr)) : List (Str × NameKind) → List (Str × Addr) → List (Str × Addr)
  | [], acc => acc
  | (n, k) :: r, acc => if k == .free then cloFrom cells r ((n, (cells.lookup n).getD 0) :: acc) else cloFrom cells r acc
theorem closure_loop (env : Env) (f : Str × NameKind → List (Str × Addr) → Sem (ForInStep (List (Str × Addr))))
    (hf : ∀ n k c, f (n, k) c = if k == .free then (do let a ← cellOf env n; pure (.yield ((n, a) :: c))) else pure (.yield c)) :
    ∀ (names : List (Str × NameKind)) (acc : List (Str × Addr)), (∀ y ∈ names, y.2 = .free → ∃ c, env.cells.lookup y.1 = some c) → forIn names acc f = pure (cloFrom env.cells names acc)
  | [], acc, _ => by rw [List.forIn_nil]; rfl
  | (n, k) :: r, acc, h => by
    rw [List.forIn_cons, hf]
    have ih := fun acc => closure_loop env f hf r acc fun y hy => h y (List.mem_cons_of_mem _ hy)
    unfold cloFrom
    by_cases hk : (k == NameKind.free) = true
    · rw [if_pos hk, if_pos hk]
      obtain ⟨c, hc⟩ := h (n, k) List.mem_cons_self (by simpa using hk)
      have e : cellOf env n = pure c := by unfold cellOf; rw [hc]
      rw [e]
      have e2 : (env.cells.lookup n).getD 0 = c := by rw [hc]; rfl
      rw [e2]
      exact ih _
    · rw [if_neg hk, if_neg hk]
      exact ih _
theorem closure_ok {scope : Scope} {env : Env} (h : ∀ y ∈ scope.names, y.2 = .free → ∃ c, env.cells.lookup y.1 = some c) : closureFor scope env = pure (cloFrom env.cells scope.names []) := by
  simp only [closureFor]
  rw [closure_loop env _ (fun n k c => rfl) scope.names [] h]
  rfl
theorem mem_lookup {α : Type} : ∀ {l : List (Str × α)} {n : Str} {c : α}, (n, c) ∈ l → ∃ c', l.lookup n = some c'
  | (k, v) :: r, n, c, h => by
    rw [List.lookup_cons]
    cases hb : n == k with
    | true => exact ⟨_, rfl⟩
    | false =>
      rcases List.mem_cons.mp h with e | h
      · cases e; simp at hb
      · exact mem_lookup h
theorem cloFrom_mem {cells : List (Str × Addr)} : ∀ {names : List (Str × NameKind)} {acc : List (Str × Addr)} {n : Str} {c : Addr}, (n, c) ∈ cloFrom cells names acc → (n, c) ∈ acc ∨ ((n, .free) ∈ names ∧ c = (cells.lookup n).getD 0)
  | [], _, _, _, h => .inl h
  | (m, k) :: r, acc, n, c, h => by
    unfold cloFrom at h
    split at h
    · rename_i hk
      have hk : k = .free := by simpa using hk
      rcases cloFrom_mem h with h | ⟨h1, h2⟩
      · rcases List.mem_cons.mp h with e | h
        · cases e; exact .inr ⟨hk ▸ List.mem_cons_self, rfl⟩
        · exact .inl h
      · exact .inr ⟨List.mem_cons_of_mem _ h1, h2⟩
    · rcases cloFrom_mem h with h | ⟨h1, h2⟩
      · exact .inl h
      · exact .inr ⟨List.mem_cons_of_mem _ h1, h2⟩
theorem cloFrom_acc {cells : List (Str × Addr)} : ∀ {names : List (Str × NameKind)} {acc : List (Str × Addr)} {p : Str × Addr}, p ∈ acc → p ∈ cloFrom cells names acc
  | [], _, _, h => h
  | (m, k) :: r, acc, p, h => by
    unfold cloFrom
    split
    · exact cloFrom_acc (List.mem_cons_of_mem _ h)
    · exact cloFrom_acc h
theorem cloFrom_has {cells : List (Str × Addr)} : ∀ {names : List (Str × NameKind)} {acc : List (Str × Addr)} {n : Str}, (n, .free) ∈ names → (n, (cells.lookup n).getD 0) ∈ cloFrom cells names acc
  | (m, k) :: r, acc, n, h => by
    unfold cloFrom
    rcases List.mem_cons.mp h with e | h
    · cases e
      exact cloFrom_acc List.mem_cons_self
    · split
      · exact cloFrom_has h
      · exact cloFrom_has h
theorem cells_mem : ∀ {names : List (Str × NameKind)} {h : Heap} {acc : List (Str × Addr)} {x : Str} {c : Addr}, (x, c) ∈ cellsFrom h.objs.size names acc →
    (x, c) ∈ acc ∨ ((x, .cell) ∈ names ∧ h.objs.size ≤ c ∧ CellAt (pushCells h names) c none)
  | [], _, _, _, _, h => .inl h
  | (n, k) :: r, h, acc, x, c, hm => by
    unfold cellsFrom at hm
    unfold pushCells
    split at hm
    · rename_i hk
      rw [if_pos hk]
      have hk : k = .cell := by simpa using hk
      rw [← Heap.size_push h { cls := .type "cell", data := .cell none }] at hm
      rcases cells_mem hm with hm | ⟨h1, h2, h3⟩
      · rcases List.mem_cons.mp hm with e | hm
        · cases e
          exact .inr ⟨hk ▸ List.mem_cons_self, Nat.le_refl _, _, pushCells_keeps r _ _ _ (Heap.get?_push_size _ rfl), rfl⟩
        · exact .inl hm
      · rw [Heap.size_push] at h2
        exact .inr ⟨List.mem_cons_of_mem _ h1, Nat.le_of_succ_le h2, h3⟩
    · rename_i hk
      rw [if_neg hk]
      rcases cells_mem hm with hm | ⟨h1, h2, h3⟩
      · exact .inl hm
      · exact .inr ⟨List.mem_cons_of_mem _ h1, h2, h3⟩
theorem cells_acc : ∀ {names : List (Str × NameKind)} {n : Nat} {acc : List (Str × Addr)} {p : Str × Addr}, p ∈ acc → p ∈ cellsFrom n names acc
  | [], _, _, _, h => h
  | (m, k) :: r, n, acc, p, h => by
    unfold cellsFrom
    split
    · exact cells_acc (List.mem_cons_of_mem _ h)
    · exact cells_acc h
theorem cells_has : ∀ {names : List (Str × NameKind)} {n : Nat} {acc : List (Str × Addr)} {x : Str}, (x, .cell) ∈ names → ∃ c, (x, c) ∈ cellsFrom n names acc
  | (m, k) :: r, n, acc, x, h => by
    unfold cellsFrom
    rcases List.mem_cons.mp h with e | h
    · cases e
      exact ⟨n, cells_acc List.mem_cons_self⟩
    · split
      · exact cells_has h
      · exact cells_has h
theorem cells_inj : ∀ {names : List (Str × NameKind)} {h : Heap} {acc : List (Str × Addr)} {x y : Str} {c : Addr}, (∀ p ∈ acc, p.2 < h.objs.size) → (∀ x y c, (x, c) ∈ acc → (y, c) ∈ acc → x = y) →
    (x, c) ∈ cellsFrom h.objs.size names acc → (y, c) ∈ cellsFrom h.objs.size names acc → x = y
  | [], _, _, _, _, _, _, hi, h1, h2 => hi _ _ _ h1 h2
  | (n, k) :: r, h, acc, x, y, c, hl, hi, h1, h2 => by
    unfold cellsFrom at h1 h2
    split at h1
    · rename_i hk
      rw [if_pos hk] at h2
      rw [← Heap.size_push h { cls := .type "cell", data := .cell none }] at h1 h2
      refine cells_inj (h := h.push _) (fun p hp => ?_) (fun x y c a b => ?_) h1 h2
      · rw [Heap.size_push]
        rcases List.mem_cons.mp hp with rfl | hp
        · exact Nat.lt_succ_self _
        · exact Nat.lt_succ_of_lt (hl p hp)
      · rcases List.mem_cons.mp a with e | a <;> rcases List.mem_cons.mp b with e' | b
        · cases e; cases e'; rfl
        · cases e; exact absurd (hl _ b) (Nat.lt_irrefl _)
        · cases e'; exact absurd (hl _ a) (Nat.lt_irrefl _)
        · exact hi _ _ _ a b
    · rename_i hk
      rw [if_neg hk] at h2
      exact cells_inj hl hi h1 h2
theorem newEnv_comp {M : Model} {A : Around} {E : Value → Shared → Prop} {s : Shared} {scope : Scope} {globals : Addr} {closure : List (Str × Addr)} {qual : Str} {func : Option Addr} {code : Value} {around : Env} {builtins : Addr} {Q : Env → Shared → Prop}
    (h : Q (newEnv scope s.heap.objs.size globals (cellsFrom (s.heap.objs.size + 1) scope.names closure) qual func code (some around) builtins)
      { s with heap := pushCells (s.heap.push { cls := .type "dict", data := .dict #[] }) scope.names }) :
    wpAny M A (newFunctionEnv scope globals closure [] qual func code (some around) builtins) Q E s := by
  simp only [newFunctionEnv, Option.isSome_some, if_true]
  refine wpAny_bind (wpAny_alloc ?_)
  refine wpAny_bind (wpAny_layCells _ (fun n k c => rfl) scope.names closure _ _ ?_)
  rw [show ({ s with heap := s.heap.push { cls := .type "dict", data := .dict #[] } } : Shared).heap.objs.size = s.heap.objs.size + 1 from Heap.size_push ..]
  rw [List.forIn_nil]
  exact wpAny_bind (wpAny_pure (wpAny_pure h))
theorem lookup_relS {sc : Scope} : ∀ {names : List (Str × NameKind)} {x : Str} {k : NameKind},
    (names.map fun (n, k) => if (k == NameKind.free && sc.kind == .function && sc.names.lookup n == some .cell) then (n, NameKind.cell) else (n, k)).lookup x = some k →
    ∃ k', names.lookup x = some k' ∧ (k = k' ∨ (k' = .free ∧ k = .cell))
  | [], _, _, h => by simp at h
  | (n, k₀) :: r, x, k, h => by
    have ih := @lookup_relS sc r x k
    have h' : List.lookup x ((if (k₀ == NameKind.free && sc.kind == .function && sc.names.lookup n == some .cell) = true then (n, NameKind.cell) else (n, k₀)) :: (r.map _)) = some k := h
    cases hx : x == n with
    | true =>
      simp only [List.lookup_cons, hx]
      by_cases hc : (k₀ == NameKind.free && sc.kind == .function && sc.names.lookup n == some .cell) = true
      · rw [if_pos hc] at h'
        simp only [List.lookup_cons, hx] at h'
        cases h'
        simp only [Bool.and_eq_true, beq_iff_eq] at hc
        exact ⟨k₀, rfl, .inr ⟨hc.1.1, rfl⟩⟩
      · rw [if_neg hc] at h'
        simp only [List.lookup_cons, hx] at h'
        cases h'
        exact ⟨_, rfl, .inl rfl⟩
    | false =>
      simp only [List.lookup_cons, hx]
      by_cases hc : (k₀ == NameKind.free && sc.kind == .function && sc.names.lookup n == some .cell) = true
      · rw [if_pos hc] at h'
        simp only [List.lookup_cons, hx] at h'
        exact ih h'
      · rw [if_neg hc] at h'
        simp only [List.lookup_cons, hx] at h'
        exact ih h'
structure BlkOk (N : List Str) (sc scope : Scope) (own : List (Str × Nat)) : Prop where
  kind : scope.kind = .function
  uniq : ∀ y ∈ scope.names, scope.names.lookup y.1 = some y.2
  ix : ∀ p ∈ own, N[p.2]? = some p.1
  free : ∀ y ∈ scope.names, y.2 = .free → sc.names.lookup y.1 = some .cell ∨ sc.names.lookup y.1 = some .free
  own : ∀ y ∈ scope.names, y.2 = .local ∨ y.2 = .cell → y.1 ∈ own.map (·.1) ∨ y.1 ∉ N
def wipe (σ : St) : List Nat → St
  | [] => σ
  | v :: vs => (wipe σ vs).set v none
theorem wipe_length (σ : St) : ∀ vs : List Nat, (wipe σ vs).length = σ.length
  | [] => rfl
  | v :: vs => by unfold wipe; rw [List.length_set, wipe_length σ vs]
theorem wipe_some {σ : St} {i : Nat} {x : V} : ∀ {vs : List Nat}, (wipe σ vs)[i]? = some (some x) → σ[i]? = some (some x) ∧ i ∉ vs
  | [], h => ⟨h, by simp⟩
  | v :: vs, h => by
    unfold wipe at h
    by_cases hi : v = i
    · subst hi
      by_cases hv : v < (wipe σ vs).length
      · rw [List.getElem?_set_self hv] at h; cases h
      · rw [List.getElem?_eq_none (by simpa using hv)] at h; cases h
    · rw [List.getElem?_set_ne hi] at h
      obtain ⟨h1, h2⟩ := wipe_some h
      exact ⟨h1, by simp only [List.mem_cons, not_or]; exact ⟨fun e => hi e.symm, h2⟩⟩
abbrev Cx.blk (X : Cx) (s : Shared) (H : Hp) (scope : Scope) (cenv : Env) (fp : List Addr) : Cx := { X with s_0 := s, H_0 := H, env := cenv, outer := X.stack, ex := fp, fn := fun x => scope.names.lookup x == some .cell, pn := [], xe := fun _ _ => False }
section
variable {X : Cx} {pins : List (Addr × Obj)} {σ : St} {H : Hp} {s : Shared}
theorem block_start {scope : Scope} {own : List (Str × Nat)} {fp : List Addr} (I : Inv X pins σ H s) (ok : BlkOk X.N X.env.scope scope own) (hN : X.N.Nodup) (hfp : ∀ b ∈ fp, FpOk X pins H b ∧ b < s.heap.objs.size) :
    Inv (X.blk s H scope (compEnvC scope (cellsFrom (s.heap.objs.size + 1) scope.names (cloFrom X.env.cells scope.names [])) s.heap.objs.size X.env) fp) [] (wipe σ (own.map (·.2))) H { s with heap := pushCells (s.heap.push { cls := .type "dict", data := .dict #[] }) scope.names } := by
  have hfree : ∀ y ∈ scope.names, y.2 = .free → ∃ c, X.env.cells.lookup y.1 = some c := fun y hy e => by
    rcases ok.free y hy e with k | k
    · exact I.ok.has _ (.inl k)
    · exact I.ok.has _ (.inr k)
  generalize hcenv : compEnvC scope (cellsFrom (s.heap.objs.size + 1) scope.names (cloFrom X.env.cells scope.names [])) s.heap.objs.size X.env = cenv
  have kp : ∀ b o, s.heap.get? b = some o → (pushCells (s.heap.push { cls := .type "dict", data := .dict #[] }) scope.names).get? b = some o := fun b o e => pushCells_keeps _ _ _ _ (Heap.get?_push_of_some _ e)
  have hL : cenv.locals = s.heap.objs.size := by rw [← hcenv]; rfl
  have hcl : cenv.cells = cellsFrom (s.heap.objs.size + 1) scope.names (cloFrom X.env.cells scope.names []) := by rw [← hcenv]; rfl
  have hsc : cenv.scope = relS scope X.env.scope := by rw [← hcenv]; rfl
  rw [← Heap.size_push s.heap { cls := .type "dict", data := .dict #[] }] at hcl
  have cm : ∀ {y c}, (y, c) ∈ cloFrom X.env.cells scope.names [] → X.env.cells.lookup y = some c ∧ c < s.heap.objs.size := fun {y c} hm => by
    rcases cloFrom_mem hm with hm | ⟨h1, rfl⟩
    · cases hm
    · obtain ⟨c, hc⟩ := hfree _ h1 rfl
      rw [hc]
      obtain ⟨w, z⟩ := I.cell _ _ hc
      exact ⟨rfl, z.lt⟩
  have mem : ∀ {y c}, cenv.cells.lookup y = some c → (X.env.cells.lookup y = some c ∧ c < s.heap.objs.size) ∨ (s.heap.objs.size + 1 ≤ c ∧ CellAt (pushCells (s.heap.push { cls := .type "dict", data := .dict #[] }) scope.names) c none) := fun {y c} e => by
    rw [hcl] at e
    rcases cells_mem (PySem.mem_of_lookup e) with hm | ⟨_, h2, h3⟩
    · exact .inl (cm hm)
    · rw [Heap.size_push] at h2; exact .inr ⟨h2, h3⟩
  have look : ∀ {y}, scope.names.lookup y = some .free → ∃ c, cenv.cells.lookup y = some c ∧ X.env.cells.lookup y = some c := fun {y} hl => by
    have hy : (y, NameKind.free) ∈ scope.names := PySem.mem_of_lookup hl
    obtain ⟨c', e'⟩ := mem_lookup (cells_acc (names := scope.names) (n := (s.heap.push { cls := .type "dict", data := .dict #[] }).objs.size) (cloFrom_has (cells := X.env.cells) (acc := []) hy))
    rw [← hcl] at e'
    refine ⟨c', e', ?_⟩
    rw [hcl] at e'
    rcases cells_mem (PySem.mem_of_lookup e') with hm | ⟨h1, _, _⟩
    · exact (cm hm).1
    · have := ok.uniq _ h1
      rw [hl] at this; cases this
  have okB : (X.blk s H scope cenv fp).Ok := by
    refine ⟨I.ok.mod, by show cenv.scope.kind = _; rw [hsc]; exact ok.kind, by show cenv.globals = _; rw [← hcenv]; exact I.ok.glob, by show cenv.builtins = _; rw [← hcenv]; exact I.ok.blt, by show s.heap.objs.size ≤ cenv.locals; rw [hL]; exact Nat.le_refl _,
      fun y z c e1 e2 => ?_, fun y hy => ?_, fun y c z e => ?_, I.ok.hd, I.ok.frames, .inl rfl, fun b hb => ⟨?_, fun y c e z => ?_⟩, I.bs, Nat.le_trans I.ok.bsz I.sz, fun b o e hb => ?_, fun b hb z => ?_, I.stack, I.stkFree⟩
    · have e1 : cenv.cells.lookup y = some c := e1
      have e2 : cenv.cells.lookup z = some c := e2
      rw [hcl] at e1 e2
      refine cells_inj (fun p hp => ?_) (fun y z c a b => I.ok.inj y z c (cm a).1 (cm b).1) (PySem.mem_of_lookup e1) (PySem.mem_of_lookup e2)
      rw [Heap.size_push]
      exact Nat.lt_succ_of_lt (cm (y := p.1) (c := p.2) hp).2
    · show ∃ c, cenv.cells.lookup y = some c
      have key : ∀ k, cenv.kindOf y = some k → (k = .cell ∨ k = .free) → ∃ c, cenv.cells.lookup y = some c := fun k hk hk' => by
        unfold Env.kindOf at hk
        rw [hsc] at hk
        obtain ⟨k', e, r⟩ := lookup_relS hk
        have : k' = .cell ∨ k' = .free := by
          rcases r with rfl | ⟨rfl, _⟩
          · exact hk'
          · exact .inr rfl
        rcases this with rfl | rfl
        · obtain ⟨c, hm⟩ := cells_has (n := (s.heap.push { cls := .type "dict", data := .dict #[] }).objs.size) (acc := cloFrom X.env.cells scope.names []) (PySem.mem_of_lookup e)
          obtain ⟨c', e'⟩ := mem_lookup hm
          exact ⟨c', by rw [hcl]; exact e'⟩
        · obtain ⟨c, h1, _⟩ := look e
          exact ⟨c, h1⟩
      rcases hy with hy | hy
      · exact key _ hy (.inl rfl)
      · exact key _ hy (.inr rfl)
    · have z : (scope.names.lookup y == some NameKind.cell) = true := z
      have z : scope.names.lookup y = some .cell := by simpa using z
      have e : cenv.cells.lookup y = some c := e
      rw [hcl] at e
      rcases cells_mem (PySem.mem_of_lookup e) with hm | ⟨_, h2, _⟩
      · rcases cloFrom_mem hm with hm | ⟨h1, _⟩
        · cases hm
        · have q := ok.uniq _ h1
          rw [z] at q; cases q
      · rw [Heap.size_push] at h2
        exact Nat.le_of_succ_le h2
    · show b ≠ cenv.locals
      rw [hL]; exact Nat.ne_of_lt (hfp b hb).2
    · have e : cenv.cells.lookup y = some c := e
      rcases mem e with ⟨h1, _⟩ | ⟨h1, _⟩
      · exact (hfp b hb).1.2.2.2.2.1 y c h1 z
      · have h2 : s.heap.objs.size + 1 ≤ b := by rw [← z]; exact h1
        exact absurd (Nat.lt_of_lt_of_le (hfp b hb).2 (Nat.le_of_succ_le h2)) (Nat.lt_irrefl _)
    · rcases (hfp b hb).1.2.2.2.1 with z | z
      · exact I.ok.noex b o e z
      · exact absurd (Nat.lt_of_lt_of_le (Heap.lt_size e) (Nat.le_trans I.ok.bsz z)) (Nat.lt_irrefl _)
    · rcases List.mem_cons.mp (I.stkSub b z) with z | z
      · exact (hfp b hb).1.2.1 z
      · exact (hfp b hb).1.2.2.1 z
  refine ⟨okB, rfl, I.bare, Un.kept kp, ⟨fun _ => none, ?_, fun i y av e1 e2 e3 => ?_⟩, fun y c e => ?_, ?_, fun y c e => ?_, fun p hp => ?_, I.hok.kept kp, by rw [wipe_length]; exact I.len⟩
  · show Heap.Ns _ cenv.locals _
    rw [hL]
    exact Heap.Ns.keeps (Heap.Ns.new ..) fun b o e => pushCells_keeps _ _ _ _ e
  · obtain ⟨e2, hne⟩ := wipe_some e2
    have hfr : scope.names.lookup y = some .free ∧ (cenv.kindOf y = some .cell ∨ cenv.kindOf y = some .free) := by
      have key : ∀ k, cenv.scope.names.lookup y = some k → k = .local ∨ k = .cell ∨ k = .free → scope.names.lookup y = some .free ∧ (cenv.kindOf y = some .cell ∨ cenv.kindOf y = some .free) := fun k hk hk' => by
        have hk0 := hk
        rw [hsc] at hk
        obtain ⟨k', e, r⟩ := lookup_relS hk
        have no : ¬ (k' = .local ∨ k' = .cell) := fun hh => by
          rcases ok.own _ (PySem.mem_of_lookup e) hh with e' | e'
          · obtain ⟨p, hp, hpy⟩ := List.mem_map.mp e'
            have e3 := ok.ix p hp
            have : p.1 = y := hpy
            rw [this] at e3
            exact hne (List.mem_map.mpr ⟨p, hp, nodup_ix hN e3 e1⟩)
          · exact e' (List.mem_of_getElem? e1)
        rcases r with rfl | ⟨rfl, rfl⟩
        · rcases hk' with rfl | rfl | rfl
          · exact absurd (.inl rfl) no
          · exact absurd (.inr rfl) no
          · exact ⟨e, .inr hk0⟩
        · exact ⟨e, .inl hk0⟩
      have e3 : Vis cenv.scope y := e3
      rcases e3 with e3 | e3 | e3
      · exact key _ e3 (.inl rfl)
      · exact key _ e3 (.inr (.inl rfl))
      · exact key _ e3 (.inr (.inr rfl))
    obtain ⟨m, hn, hl⟩ := I.loc
    have hvis : Vis X.env.scope y := (ok.free _ (PySem.mem_of_lookup hfr.1) rfl).elim (fun k => .inr (.inl k)) (fun k => .inr (.inr k))
    obtain ⟨w, r, q⟩ := hl i y av e1 e2 hvis
    refine ⟨w, r, .inr ⟨hfr.2, ?_⟩⟩
    obtain ⟨c, h1, h2⟩ := look hfr.1
    rcases q with ⟨k, _⟩ | ⟨_, c', e', z⟩
    · have k : X.env.scope.names.lookup y = some .local := k
      rcases ok.free _ (PySem.mem_of_lookup hfr.1) rfl with k' | k' <;> rw [show X.env.scope.names.lookup y = _ from k'] at k <;> cases k
    · rw [h2] at e'; cases e'
      exact ⟨c, h1, z.keeps kp⟩
  · have e : cenv.cells.lookup y = some c := e
    rcases mem e with ⟨h1, _⟩ | ⟨_, z⟩
    · obtain ⟨w, z⟩ := I.cell y c h1
      exact ⟨w, z.keeps kp⟩
    · exact ⟨_, z⟩
  · show H cenv.locals = none
    rw [hL]; exact I.hok.fresh (Nat.le_refl _)
  · have e : cenv.cells.lookup y = some c := e
    rcases mem e with ⟨h1, _⟩ | ⟨h1, _⟩
    · exact I.freeC y c h1
    · exact I.hok.fresh (Nat.le_of_succ_le h1)
  · exact absurd (show p ∈ ([] : List (Addr × Obj)) ++ [] from hp) (by simp)
theorem app_ok {E : Value → Shared → Prop} {D : Addr} {xs : List V} {y : V} {v : Value} {Q : Value → Shared → Prop} (I : Inv X pins σ H s) (hD : H D = some (.lst xs)) (hz : xs.length < sizeLine) (r : RelV y v)
    (h : ∀ s', Inv X pins σ (upd H D (.lst (xs ++ [y]))) s' → Q .none s') : wpAny (model X.prog X.w) X.A (call (.builtin "list.append") [.ref D, v]) Q E s := by
  obtain ⟨hz', its, n, ri, e⟩ := I.hok D _ hD
  have hl := ri.length
  refine append_at (hsz := by rw [List.size_toArray]; omega) e fun h' sb ho' => ?_
  refine h { s with heap := h' } (I.write (t' := s.toks) (by rw [hD]; trivial) (.inl rfl) (fun b u hb q => (sb.2 b hb).trans q) ⟨_, ho'⟩ ⟨by rw [List.length_append]; exact hz, its ++ [v], n + 1, ri.append (.cons r .nil), ?_⟩)
  rw [ho']
  simp
def PTs (X : Cx) (ifs : List Expr) (t : TT) : Prop :=
  ∀ (pins : List (Addr × Obj)) (s : Shared) (σ : St) (H : Hp) (Q : Bool → Hp → Prop), Inv X pins σ H s → t σ H Q →
    wpAny (model X.prog X.w) X.A (forIn ifs true fun c r => if r = true then do let ok ← isTrue c X.env (eval c X.env); pure (ForInStep.yield ok) else pure (ForInStep.yield r)) (TP X pins σ Q) X.xe s
def tYes : TT := fun _ H Q => Q true H
theorem pts_nil : PTs X [] tYes := fun _ _ _ H _ I h => wpAny_tests_nil ⟨H, I, h⟩
theorem pts_one {c : Expr} {t : TT} (h : PT X c t) : PTs X [c] t := fun pins s σ H Q I hw => wpAny_tests_one (h pins s σ H Q I hw)
end
theorem thnF {α : Type} {t : Sem α} {Q Q' : α → Shared → Prop} {M : Model} {A : Around} {E : Value → Shared → Prop} {s : Shared} (h : wpAny M A t Q (fun _ _ => False) s) (hQ : ∀ a s, Q a s → Q' a s) : wpAny M A t Q' E s := wpAny_mono h hQ fun _ _ z => False.elim z
theorem compLoop_any {prog : Program} {w : World} {A : Around} {R : Result → Shared → Prop} {s : Shared} {elt target iter : Expr} {ifs : List Expr} {scope : Scope} {pos : Pos} {it acc : Value} {env : Env} (I : Nat → Shared → Prop)
    (turn : ∀ n s, I n s → wpAny (model prog w) A (pyNext it) (fun r s₁ => match r with
      | none => R (.ok .next) s₁
      | some v => wpAny (model prog w) A (letOwnedTupleGo target it v) (fun _ s₁' => wpAny (model prog w) A (assign target env v) (fun _ s₂ =>
          wpAny (model prog w) A (forIn ifs true fun c r => if r = true then do let ok ← isTrue c env (eval c env); pure (ForInStep.yield ok) else pure (ForInStep.yield r)) (fun ok s₃ =>
            if ok = true then wpAny (model prog w) A (eval elt env) (fun x s₄ =>
              wpAny (model prog w) A (call (.builtin "list.append") [acc, x]) (fun _ s₅ => ∃ m, m < n ∧ I m s₅) (notedBy (model prog w) A env fun e s' => R (.error e) s') s₄) (notedBy (model prog w) A env fun e s' => R (.error e) s') s₃
            else ∃ m, m < n ∧ I m s₃) (notedBy (model prog w) A env fun e s' => R (.error e) s') s₂) (notedBy (model prog w) A env fun e s' => R (.error e) s') s₁') (notedBy (model prog w) A env fun e s' => R (.error e) s') s₁) (notedBy (model prog w) A env fun e s' => R (.error e) s') s)
    (n : Nat) (h : I n s) :
    codeAny (model prog w) A (.compLoop (.ListComp elt [⟨target, iter, ifs, 0⟩] scope pos) 0 it acc env) R s := by
  refine codeAny_loop rfl I (fun n s hI => ?_) n h
  show wpAny _ A ((compTurn (.ListComp elt [⟨target, iter, ifs, 0⟩] scope pos) 0 it acc env).onRaise (fun x => do noteFrame x env; theTreesLotGoes x)) _ _ s
  refine wpAny_noted ?_
  rw [compTurn_list]
  refine wpAny_bind (wpAny_standAt (wpAny_bind (wpAny_mono (turn n s hI) (fun r s₁ h₁ => ?_) fun _ _ h' => h')))
  cases r with
  | none => exact wpAny_pure h₁
  | some v =>
    refine wpAny_bind (wpAny_mono h₁ (fun _ s₁' h₁' => ?_) fun _ _ h' => h')
    refine wpAny_bind (wpAny_mono h₁' (fun _ s₂ h₂ => wpAny_bind (wpAny_mono h₂ (fun ok s₃ h₃ => ?_) fun _ _ h' => h')) fun _ _ h' => h')
    cases ok with
    | false => exact wpAny_pure ⟨rfl, h₃⟩
    | true =>
      exact wpAny_bind (wpAny_bind (wpAny_mono h₃ (fun x s₄ h₄ => wpAny_bind (wpAny_mono h₄ (fun _ s₅ h₅ => wpAny_pure (wpAny_pure ⟨rfl, h₅⟩)) fun _ _ h' => h')) fun _ _ h' => h'))
section
variable {X : Cx}
def tLc (wi : TI) (g : TG) (tt : TT) (te : TE) (vs : List Nat) : TE := fun σ H Q => wi σ H fun J H1 => ∀ D, H1 D = none → ∃ W : Nat → Nat → Hp → Prop, (∃ m, W 0 m (upd H1 D (.lst []))) ∧ ∀ i m H, W i m H →
  (J.stop i H ∧ Q (.ref D) H) ∨ (J.go i H ∧ ∃ Nx : Hp → Prop, (∀ H', Nx H' → ∃ m', m' < m ∧ W (i + 1) m' H') ∧ ∀ x H', J.yld i H x H' → g x (wipe σ vs) H' fun σ2 H2 => wipe σ2 vs = wipe σ vs ∧ tt σ2 H2 fun b H3 =>
    if b = true then te σ2 H3 fun y H4 => ∃ acc, H4 D = some (.lst acc) ∧ acc.length < sizeLine ∧ Nx (upd H4 D (.lst (acc ++ [y]))) else Nx H3)
theorem lc_core {pins : List (Addr × Obj)} {s : Shared} {σ : St} {H : Hp} {Q : VK} {elt tg iter : Expr} {ifs : List Expr} {scope : Scope} {own : List (Str × Nat)} {pos pos' : Pos} {wi : TI} {g : TG} {tt : TT} {te : TE} {use : Option (Value → Sem Unit)} {Qf : Value → Shared → Prop}
    (hc : X.calm = true) (hN : X.N.Nodup) (I : Inv X pins σ H s) (hi : PI X tg iter wi) (ok : BlkOk X.N X.env.scope scope own)
    (hg : ∀ (s : Shared) (H : Hp) (C : Addr) (cl : List (Str × Addr)) (fp : List Addr), PG (X.blk s H scope (compEnvC scope cl C X.env) fp) tg g) (ht : ∀ (s : Shared) (H : Hp) (C : Addr) (cl : List (Str × Addr)) (fp : List Addr), PTs (X.blk s H scope (compEnvC scope cl C X.env) fp) ifs tt)
    (he : ∀ (s : Shared) (H : Hp) (C : Addr) (cl : List (Str × Addr)) (fp : List Addr), PE (X.blk s H scope (compEnvC scope cl C X.env) fp) elt te) (hs : ∀ x, foldedSetIterable iter X.env x = pure x)
    (h : tLc wi g tt te (own.map (·.2)) σ H Q)
    (hRR : ∀ D C s' m H', Inv X pins σ H' s' → Q (.ref D) H' → s'.heap.Ns C m → FpOk X pins H' C → compPost (model X.prog X.w) X.A X.xe use Qf (.ref D) C (.ok .next) s') :
    wpAny (model X.prog X.w) X.A (comprehension (.ListComp elt [⟨tg, iter, ifs, 0⟩] scope pos) scope X.env pos' (newList []) false (eval iter X.env) use) Qf X.xe s := by
  have hfree : ∀ y ∈ scope.names, y.2 = .free → ∃ c, X.env.cells.lookup y.1 = some c := fun y hy e => by
    rcases ok.free y hy e with k | k
    · exact I.ok.has _ (.inl k)
    · exact I.ok.has _ (.inr k)
  refine wpAny_comprehension_free (use := use) rfl hs (closure_ok hfree) ok.kind (fun y hy e => by rw [ok.uniq y hy, e])
    (thn (hi pins s σ H _ I h) fun xv s1 hx => thn hx fun itv s2 h2 => ?_)
  obtain ⟨it, fp, tn, J, H2, e, I2, T, st2, f2, q⟩ := h2
  subst e
  refine wpAny_newObj_type (newEnv_comp ?_) (by show 0 ≤ sizeLine; decide)
  generalize hD : s2.heap.objs.size = D
  have hDn : H2 D = none := I2.hok.fresh (Nat.le_of_eq hD)
  obtain ⟨W, ⟨m0, w0⟩, turn⟩ := q D hDn
  generalize hs3 : ({ s2 with heap := s2.heap.push { cls := .type "list", data := .seq ([] : List Value).toArray } } : Shared) = s3
  have I3 : Inv X pins σ (upd H2 D (.lst [])) s3 := by
    rw [← hs3]
    refine I2.laid (t' := s2.toks) (fun b o e => Heap.get?_push_of_some _ e) (Nat.le_of_eq hD) ⟨Nat.zero_le _, [], 0, .nil, ?_⟩
    rw [← hD]
    exact Heap.get?_push_size _ rfl
  have h3 : s3.heap = s2.heap.push { cls := .type "list", data := .seq ([] : List Value).toArray } := by rw [← hs3]
  have sz : ∀ b ∈ fp, b < s2.heap.objs.size := fun b hb => by
    obtain ⟨o, e, _⟩ := T.obj _ _ st2 b hb
    exact Heap.lt_size e
  have f3 : ∀ b ∈ fp, FpOk X pins (upd H2 D (.lst [])) b ∧ b < s3.heap.objs.size := fun b hb => by
    have hlt := sz b hb
    refine ⟨⟨?_, (f2 b hb).2⟩, by rw [h3, Heap.size_push]; exact Nat.lt_succ_of_lt hlt⟩
    rw [upd_ne (by rw [← hD]; exact Nat.ne_of_lt hlt)]
    exact (f2 b hb).1
  have st3 : tn 0 s3.heap := T.keep _ _ _ st2 fun b _ o e => by rw [h3]; exact Heap.get?_push_of_some _ e
  have I4 := block_start I3 ok hN f3
  have pg := hg s3 (upd H2 D (.lst [])) s3.heap.objs.size (cellsFrom (s3.heap.objs.size + 1) scope.names (cloFrom X.env.cells scope.names [])) fp
  have pt := ht s3 (upd H2 D (.lst [])) s3.heap.objs.size (cellsFrom (s3.heap.objs.size + 1) scope.names (cloFrom X.env.cells scope.names [])) fp
  have pe := he s3 (upd H2 D (.lst [])) s3.heap.objs.size (cellsFrom (s3.heap.objs.size + 1) scope.names (cloFrom X.env.cells scope.names [])) fp
  show codeAny _ _ (.compStart (.ListComp elt [⟨tg, iter, ifs, 0⟩] scope pos) 0 (.ref it) (.ref D) (compEnvC scope (cellsFrom (s3.heap.objs.size + 1) scope.names (cloFrom X.env.cells scope.names [])) s3.heap.objs.size X.env)) (compPost (model X.prog X.w) X.A X.xe use Qf (.ref D) s3.heap.objs.size) { s3 with heap := pushCells (s3.heap.push { cls := .type "dict", data := .dict #[] }) scope.names }
  have nfp : ∀ b ∈ fp, (upd H2 D (.lst [])) b = none := fun b hb => (f3 b hb).1.1
  generalize hce : compEnvC scope (cellsFrom (s3.heap.objs.size + 1) scope.names (cloFrom X.env.cells scope.names [])) s3.heap.objs.size X.env = ce at I4 pg pt pe ⊢
  have cL : ce.locals = s3.heap.objs.size := by subst hce; rfl
  generalize hH3 : upd H2 D (.lst []) = H3 at I3 I4 pg pt pe w0 nfp f3
  generalize hs4 : ({ s3 with heap := pushCells (s3.heap.push { cls := .type "dict", data := .dict #[] }) scope.names } : Shared) = s4 at I4 ⊢
  have st4 : tn 0 s4.heap := T.keep _ _ _ st3 fun b _ o e => by rw [← hs4]; exact pushCells_keeps _ _ _ _ (Heap.get?_push_of_some _ e)
  have stat : ∀ {σ' : St} {H' : Hp} {s' : Shared}, Inv (X.blk s3 H3 scope ce fp) [] σ' H' s' → (∀ b ∈ fp, H' b = none) → ∀ b ∈ fp, FpOk (X.blk s3 H3 scope ce fp) [] H' b := fun {σ' H' s'} I' hn b hb =>
    ⟨hn b hb, (I'.ok.exf b hb).1, I'.ok.exfs b hb, .inl hb, fun x c e => (I'.ok.exf b hb).2 x c e, fun p hp => absurd (show p ∈ ([] : List (Addr × Obj)) ++ [] from hp) (by simp)⟩
  have loop : codeAny (model X.prog X.w) X.A (.compLoop (.ListComp elt [⟨tg, iter, ifs, 0⟩] scope pos) 0 (.ref it) (.ref D) ce) (compPost (model X.prog X.w) X.A X.xe use Qf (.ref D) s3.heap.objs.size) s4 := by
    refine compLoop_any (fun n s' => ∃ i H', Inv (X.blk s3 H3 scope ce fp) [] (wipe σ (own.map (·.2))) H' s' ∧ tn i s'.heap ∧ (∀ b ∈ fp, H' b = none) ∧ W i n H') ?_ m0 ⟨0, H3, I4, st4, nfp, w0⟩
    rintro n s5 ⟨i, H5, I5, st5, n5, w5⟩
    rcases turn i n H5 w5 with ⟨stop, qq⟩ | ⟨go, Nx, hNx, step⟩
    · have td := T.done (X.blk s3 H3 scope ce fp) rfl rfl rfl hc i [] s5 _ H5 (fun _ _ => False) I5 (stat I5 n5) st5 stop
      refine thnF td fun r s6 ⟨hr, I6⟩ => ?_
      subst hr
      have I7 : Inv X pins σ H5 s6 := I3.call' (ch := fp) I6.os I6.base I6.hok I6.bare fun b hb => ⟨(f3 b hb).1.2.2.2.1, (f3 b hb).1.2.1, (f3 b hb).1.2.2.2.2.1, (f3 b hb).1.2.2.2.2.2⟩
      have nC : H5 s3.heap.objs.size = none := by
        have z : H5 ce.locals = none := I6.free
        rw [cL] at z
        exact z
      obtain ⟨m, hn, _⟩ := I6.loc
      have hn : s6.heap.Ns ce.locals m := hn
      rw [cL] at hn
      exact hRR D s3.heap.objs.size s6 m H5 I7 qq hn (I3.fpOk (Nat.le_refl _) nC)
    · have ti := T.item (X.blk s3 H3 scope ce fp) rfl rfl rfl hc i [] s5 _ H5 (fun _ _ => False) I5 (stat I5 n5) st5 go
      refine thnF ti fun r s6 ⟨u, hr, h6⟩ => ?_
      subst hr
      refine thnF h6 fun _ s7 ⟨x, H7, I7, r7, y7, st7, n7⟩ => ?_
      have I7' := I7.pinned (stat I7 n7) (T.obj _ _ st7)
      refine thnF (pg _ s7 _ H7 x u _ I7' r7 (step x H7 y7)) fun _ s8 ⟨σ8, H8, I8, hw8, q8⟩ => ?_
      refine thnF (pt _ s8 σ8 H8 _ I8 q8) fun b s9 ⟨H9, I9, q9⟩ => ?_
      have fin : ∀ {s' : Shared} {H' : Hp}, Inv (X.blk s3 H3 scope ce fp) ([] ++ pinsAt fp s7.heap) σ8 H' s' → Nx H' → ∃ m, m < n ∧ ∃ i H', Inv (X.blk s3 H3 scope ce fp) [] (wipe σ (own.map (·.2))) H' s' ∧ tn i s'.heap ∧ (∀ b ∈ fp, H' b = none) ∧ W i m H' := fun {s' H'} I' nx => by
        obtain ⟨m', hm, w'⟩ := hNx H' nx
        have pin' : ∀ b ∈ fp, ∀ o, s7.heap.get? b = some o → s'.heap.get? b = some o ∧ H' b = none := fun b hb o e =>
          let z := I'.pin (b, o) (List.mem_append_right _ (List.mem_append_right _ (mem_pinsAt hb e)))
          ⟨z.1, z.2.1⟩
        have hl : (wipe σ (own.map (·.2))).length = σ8.length := by rw [← hw8, wipe_length]
        refine ⟨m', hm, i + 1, H', (I'.unpinned (pins := [])).weak hl (fun j v e => ?_), T.keep _ _ _ st7 fun b hb o e => (pin' b hb o e).1, fun b hb => ?_, w'⟩
        · rw [← hw8] at e
          exact (wipe_some e).1
        · obtain ⟨o, e, _⟩ := T.obj _ _ st7 b hb
          exact (pin' b hb o e).2
      cases b with
      | false =>
        simp only [Bool.false_eq_true, if_false] at q9 ⊢
        exact fin I9 q9
      | true =>
        simp only [if_true] at q9 ⊢
        refine thnF (pe _ s9 σ8 H9 _ I9 q9) fun z s10 ⟨yv, H10, I10, r10, acc, hD10, hz10, nx⟩ => ?_
        exact app_ok (X := X.blk s3 H3 scope ce fp) I10 hD10 hz10 r10 fun s11 I11 => fin I11 nx
  exact codeAny_compStart_list loop (T.self X.A 0 _ _ _ st4 loop)
theorem pe_lc {elt tg iter : Expr} {ifs : List Expr} {scope : Scope} {own : List (Str × Nat)} {pos : Pos} {wi : TI} {g : TG} {tt : TT} {te : TE} (hc : X.calm = true) (hN : X.N.Nodup) (hi : PI X tg iter wi) (ok : BlkOk X.N X.env.scope scope own)
    (hg : ∀ (s : Shared) (H : Hp) (C : Addr) (cl : List (Str × Addr)) (fp : List Addr), PG (X.blk s H scope (compEnvC scope cl C X.env) fp) tg g) (ht : ∀ (s : Shared) (H : Hp) (C : Addr) (cl : List (Str × Addr)) (fp : List Addr), PTs (X.blk s H scope (compEnvC scope cl C X.env) fp) ifs tt)
    (he : ∀ (s : Shared) (H : Hp) (C : Addr) (cl : List (Str × Addr)) (fp : List Addr), PE (X.blk s H scope (compEnvC scope cl C X.env) fp) elt te) (hs : ∀ x, foldedSetIterable iter X.env x = pure x := by intro _; rfl) :
    PE X (.ListComp elt [⟨tg, iter, ifs, 0⟩] scope pos) (tLc wi g tt te (own.map (·.2))) := by
  intro pins s σ H Q I h
  rw [eval_ListComp]
  refine lc_core hc hN I hi ok hg ht he hs h fun D C s' m H' I' q hn f => ⟨m, hn, fun h'' sb => ?_⟩
  obtain ⟨f0, f1, f2, f3, f4, f5⟩ := f
  exact ⟨.ref D, H', I'.turned (t' := s'.toks) (fun b o hb e => (sb.2 b hb).trans e) f0 f1 f3 f4 f5, rfl, q⟩
theorem ps_setLc {i : Nat} {y : Str} {py : Pos} {elt tg iter : Expr} {ifs : List Expr} {scope : Scope} {own : List (Str × Nat)} {pos spos : Pos} {wi : TI} {g : TG} {tt : TT} {te : TE} (hc : X.calm = true) (hN : X.N.Nodup) (hy : X.N[i]? = some y) (hyl : X.env.scope.names.lookup y = some .local)
    (hsw : swapsWith (.ListComp elt [⟨tg, iter, ifs, 0⟩] scope pos) (some (.Name y py)) spos.line X.env = pure true) (hi : PI X tg iter wi) (ok : BlkOk X.N X.env.scope scope own)
    (hg : ∀ (s : Shared) (H : Hp) (C : Addr) (cl : List (Str × Addr)) (fp : List Addr), PG (X.blk s H scope (compEnvC scope cl C X.env) fp) tg g) (ht : ∀ (s : Shared) (H : Hp) (C : Addr) (cl : List (Str × Addr)) (fp : List Addr), PTs (X.blk s H scope (compEnvC scope cl C X.env) fp) ifs tt)
    (he : ∀ (s : Shared) (H : Hp) (C : Addr) (cl : List (Str × Addr)) (fp : List Addr), PE (X.blk s H scope (compEnvC scope cl C X.env) fp) elt te) (hs : ∀ x, foldedSetIterable iter X.env x = pure x := by intro _; rfl) :
    PS X (.Assign [.Name y py] (.ListComp elt [⟨tg, iter, ifs, 0⟩] scope pos) spos) (tAsg (tLc wi g tt te (own.map (·.2))) (gName i)) := by
  intro pins s σ H D I h
  rw [exec_Assign_Name_used _ _ _ _ hsw]
  refine wpAny_bind (wpAny_standAt (wpAny_bind ?_))
  show wpAny _ X.A (do let _ ← comprehension (.ListComp elt [⟨tg, iter, ifs, 0⟩] scope pos) scope X.env (firstIterPos [⟨tg, iter, ifs, 0⟩] pos) (newList []) false (eval iter X.env) (some (assign (.Name y py) X.env))) _ _ s
  have h : tLc wi g tt te (own.map (·.2)) σ H (fun x H1 => gName i x σ H1 D.nx) := h
  refine wpAny_bind (thn (lc_core (Qf := fun _ s' => SP X pins D .next s') hc hN I hi ok hg ht he hs h fun L C s' m H' I' q hn f => ?_) fun _ s' hq => wpAny_pure (wpAny_pure hq))
  show wpAny _ _ (assign (.Name y py) X.env (.ref L)) _ _ _
  refine wpAny_assign_Name (store_ok2 (v := V.ref L) I' hN hy (.inl hyl) rfl (fun s2 I2 ⟨a, sb, ha⟩ => ?_) (.inr hyl))
  obtain ⟨f0, f1, f2, f3, f4, f5⟩ := f
  have haC : C ≠ a := by
    rcases ha with z | z
    · rw [z]; exact f1
    · exact fun e => f4 y a z e.symm
  refine ⟨m, hn.sameBut sb haC, fun h3 sb3 => ?_⟩
  exact ⟨_, H', I2.turned (t' := s2.toks) (fun b o hb e => (sb3.2 b hb).trans e) f0 f1 f3 f4 f5, q⟩
theorem sw_true {elt : Expr} {gs : List Comprehension} {scope : Scope} {pos py : Pos} {y : Str} {l : Nat} {env : Env} (hk : env.scope.kind = .function) (hy : env.scope.names.lookup y = some .local) (hl : (py.line == pos.line) = true)
    (ha : (scope.names.any fun (n, k) => n == y && (k == .local || k == .cell)) = false) : swapsWith (.ListComp elt gs scope pos) (some (.Name y py)) l env = pure true := by
  have ky : env.kindOf y = some .local := hy
  have hb : env.blockKind = .function := by unfold Env.blockKind; rw [hk]; rfl
  unfold swapsWith
  simp only [hb, ky, ha, Expr.pos, hl]
  rfl
end
theorem lc_range {lo : Int} {n : Nat} {g : TG} {tt : TT} {te : TE} {vs : List Nat} {σ : St} {H1 : Hp} {D : Addr} {Qd : Hp → Prop} (Pv : Nat → Hp → Prop) (h0 : Pv 0 (upd H1 D (.lst [])))
    (hs : ∀ i H, i < n → Pv i H → g (.int (lo + i)) (wipe σ vs) H fun σ2 H2 => wipe σ2 vs = wipe σ vs ∧ tt σ2 H2 fun b H3 =>
      if b = true then te σ2 H3 fun y H4 => ∃ acc, H4 D = some (.lst acc) ∧ acc.length < sizeLine ∧ Pv (i + 1) (upd H4 D (.lst (acc ++ [y]))) else Pv (i + 1) H3) (hd : ∀ H, Pv n H → Qd H) :
    ∃ W : Nat → Nat → Hp → Prop, (∃ m, W 0 m (upd H1 D (.lst []))) ∧ ∀ i m H, W i m H →
      ((Itr lo n).stop i H ∧ Qd H) ∨ ((Itr lo n).go i H ∧ ∃ Nx : Hp → Prop, (∀ H', Nx H' → ∃ m', m' < m ∧ W (i + 1) m' H') ∧ ∀ x H', (Itr lo n).yld i H x H' → g x (wipe σ vs) H' fun σ2 H2 => wipe σ2 vs = wipe σ vs ∧ tt σ2 H2 fun b H3 =>
        if b = true then te σ2 H3 fun y H4 => ∃ acc, H4 D = some (.lst acc) ∧ acc.length < sizeLine ∧ Nx (upd H4 D (.lst (acc ++ [y]))) else Nx H3) := by
  refine ⟨fun i m H => m = n - i ∧ i ≤ n ∧ Pv i H, ⟨n, by simp, Nat.zero_le _, h0⟩, ?_⟩
  rintro i m H ⟨rfl, hi, p⟩
  by_cases hlt : i < n
  · refine .inr ⟨hlt, Pv (i + 1), fun H' p' => ⟨n - (i + 1), by omega, rfl, hlt, p'⟩, fun x H' y => ?_⟩
    obtain ⟨e, y⟩ := y
    subst e y
    exact hs i _ hlt p
  · have e : i = n := by omega
    subst e
    exact .inl ⟨Nat.le_refl _, hd H p⟩
theorem lc_list {K : PySem.W.Frag} {a : Addr} {xs : List V} {g : TG} {tt : TT} {te : TE} {vs : List Nat} {σ : St} {H1 : Hp} {D : Addr} {Qd : Hp → Prop} (Pv : Nat → Hp → Prop) (h0 : Pv 0 (upd H1 D (.lst []))) (hl : ∀ i H, i ≤ xs.length → Pv i H → SqL K H a xs)
    (hs : ∀ i x H, xs[i]? = some x → Pv i H → g x (wipe σ vs) H fun σ2 H2 => wipe σ2 vs = wipe σ vs ∧ tt σ2 H2 fun b H3 =>
      if b = true then te σ2 H3 fun y H4 => ∃ acc, H4 D = some (.lst acc) ∧ acc.length < sizeLine ∧ Pv (i + 1) (upd H4 D (.lst (acc ++ [y]))) else Pv (i + 1) H3) (hd : ∀ H, Pv xs.length H → Qd H) :
    ∃ W : Nat → Nat → Hp → Prop, (∃ m, W 0 m (upd H1 D (.lst []))) ∧ ∀ i m H, W i m H →
      ((Itl K a).stop i H ∧ Qd H) ∨ ((Itl K a).go i H ∧ ∃ Nx : Hp → Prop, (∀ H', Nx H' → ∃ m', m' < m ∧ W (i + 1) m' H') ∧ ∀ x H', (Itl K a).yld i H x H' → g x (wipe σ vs) H' fun σ2 H2 => wipe σ2 vs = wipe σ vs ∧ tt σ2 H2 fun b H3 =>
        if b = true then te σ2 H3 fun y H4 => ∃ acc, H4 D = some (.lst acc) ∧ acc.length < sizeLine ∧ Nx (upd H4 D (.lst (acc ++ [y]))) else Nx H3) := by
  refine ⟨fun i m H => m = xs.length - i ∧ i ≤ xs.length ∧ Pv i H, ⟨xs.length, by simp, Nat.zero_le _, h0⟩, ?_⟩
  rintro i m H ⟨rfl, hi, p⟩
  have q := hl i H hi p
  by_cases hlt : i < xs.length
  · refine .inr ⟨⟨xs, xs[i], q, by simp [hlt]⟩, Pv (i + 1), fun H' p' => ⟨xs.length - (i + 1), by omega, rfl, hlt, p'⟩, fun x H' y => ?_⟩
    obtain ⟨e, y⟩ := y
    subst e
    exact hs i x _ (y xs q) p
  · have e : i = xs.length := by omega
    subst e
    exact .inl ⟨⟨xs, q, Nat.le_refl _⟩, hd H p⟩
def blkC (N : List Str) (sc scope : Scope) (own : List (Str × Nat)) : Bool :=
  (match scope.kind with | .function => true | _ => false) && (scope.names.all fun y => decide (scope.names.lookup y.1 = some y.2)) && (own.all fun p => decide (N[p.2]? = some p.1)) &&
    (scope.names.all fun y => match y.2 with
      | .free => (match sc.names.lookup y.1 with | some .cell => true | some .free => true | _ => false)
      | .local => decide (y.1 ∈ own.map (·.1)) || decide (y.1 ∉ N)
      | .cell => decide (y.1 ∈ own.map (·.1)) || decide (y.1 ∉ N)
      | _ => true)
theorem blkOk_by {N : List Str} {sc scope : Scope} {own : List (Str × Nat)} (h : blkC N sc scope own = true) : BlkOk N sc scope own := by
  unfold blkC at h
  simp only [Bool.and_eq_true, List.all_eq_true, decide_eq_true_eq] at h
  obtain ⟨⟨⟨h1, h2⟩, h3⟩, h4⟩ := h
  refine ⟨?_, h2, h3, fun y hy e => ?_, fun y hy e => ?_⟩
  · split at h1
    · assumption
    · cases h1
  · have q := h4 y hy
    simp only [e] at q
    split at q <;> first | exact .inl (by assumption) | exact .inr (by assumption) | cases q
  · have q := h4 y hy
    rcases e with e | e <;> (simp only [e, Bool.or_eq_true, decide_eq_true_eq] at q; exact q)
end L2
namespace L2
open PySem PySem.Spec PyProof.Rows
section
variable {prog : Program} {w : World} {A : Around} {R : Result → Shared → Prop} {s : Shared} {elt t0 i0 t1 i1 : Expr} {ifs0 ifs1 : List Expr} {scope : Scope} {pos : Pos} {it acc : Value} {env : Env}
end
section
variable {X : Cx}
end
end L2
namespace L2
open PySem PySem.Spec PyProof.Rows
section
variable {κ : Type} [DecidableEq κ]
def valV (kvs : List (κ × V)) (k : κ) : Option V := (kvs.find? fun kv => decide (kv.1 = k)).map (·.2)
def putK (kvs : List (κ × V)) (k : κ) (v : V) : List (κ × V) :=
  if (kvs.any fun kv => decide (kv.1 = k)) = true then kvs.map (fun kv => if kv.1 = k then (kv.1, v) else kv) else kvs ++ [(k, v)]
def dropK (kvs : List (κ × V)) (k : κ) : List (κ × V) := kvs.filter fun kv => decide (kv.1 ≠ k)
theorem valV_pos {p : κ × V} {r : List (κ × V)} {k : κ} (e : p.1 = k) : valV (p :: r) k = some p.2 := by simp [valV, List.find?_cons, e]
theorem valV_neg {p : κ × V} {r : List (κ × V)} {k : κ} (e : ¬ p.1 = k) : valV (p :: r) k = valV r k := by simp [valV, List.find?_cons, e]
theorem RelO.getD {o : Option V} {u : Option Value} {d : V} {d' : Value} (r : RelO o u) (rd : RelV d d') : RelV (o.getD d) (u.getD d') := by
  cases o with
  | none => cases u with
    | none => exact rd
    | some _ => exact (show False from r).elim
  | some _ => cases u with
    | none => exact (show False from r).elim
    | some _ => exact r
theorem KV.val {kvs : List (κ × V)} {vs : List (κ × Value)} (r : KV kvs vs) (k : κ) : RelO (valV kvs k) (valueAt vs k) := by
  unfold KV at r
  induction r with
  | nil => exact True.intro
  | @cons p q ps qs h t ih =>
    obtain ⟨h1, h2⟩ := h
    by_cases e : p.1 = k
    · have e' : q.1 = k := h1.symm.trans e
      have b : valueAt (q :: qs) k = some q.2 := by simp [valueAt, List.find?_cons, e']
      rw [valV_pos e, b]; exact h2
    · have e' : ¬ q.1 = k := fun z => e (h1.trans z)
      have b : valueAt (q :: qs) k = valueAt qs k := by simp [valueAt, List.find?_cons, e']
      rw [valV_neg e, b]; exact ih
theorem KV.any {kvs : List (κ × V)} {vs : List (κ × Value)} (r : KV kvs vs) (k : κ) : (kvs.any fun kv => decide (kv.1 = k)) = vs.any fun kv => decide (kv.1 = k) := by
  unfold KV at r
  induction r with
  | nil => rfl
  | cons h t ih => rw [List.any_cons, List.any_cons, ih, h.1]
theorem KV.drop {kvs : List (κ × V)} {vs : List (κ × Value)} (r : KV kvs vs) (k : κ) : KV (dropK kvs k) (without vs k) := by
  unfold KV at r ⊢
  unfold dropK without
  induction r with
  | nil => exact .nil
  | @cons p q ps qs h t ih =>
    obtain ⟨h1, h2⟩ := h
    rw [List.filter_cons, List.filter_cons]
    by_cases e : p.1 = k
    · have a : ¬ decide (p.1 ≠ k) = true := by simp [e]
      have b : ¬ decide (q.1 ≠ k) = true := by simp [h1.symm.trans e]
      rw [if_neg a, if_neg b]; exact ih
    · have e' : ¬ q.1 = k := fun z => e (h1.trans z)
      have a : decide (p.1 ≠ k) = true := by simp [e]
      have b : decide (q.1 ≠ k) = true := by simp [e']
      rw [if_pos a, if_pos b]; exact .cons ⟨h1, h2⟩ ih
theorem KV.length {kvs : List (κ × V)} {vs : List (κ × Value)} (r : KV kvs vs) : kvs.length = vs.length := Paired.length r
end
abbrev KT (H : Hp) : List (List Key × V) → List (List Key × Addr × Value) → Prop := Paired fun p q => p.1 = q.1 ∧ H q.2.1 = some (.tup (p.1.map kV)) ∧ RelV p.2 q.2.2
theorem KT.val {H : Hp} {kvs : List (List Key × V)} {xs : List (List Key × Addr × Value)} (r : KT H kvs xs) (k : List Key) : RelO (valV kvs k) ((atKey xs k).map (·.2)) := by
  induction r with
  | nil => exact True.intro
  | @cons p q ps qs h t ih =>
    obtain ⟨h1, _, h2⟩ := h
    by_cases e : p.1 = k
    · have e' : q.1 = k := h1.symm.trans e
      have b : atKey (q :: qs) k = some q.2 := by simp [atKey, List.find?_cons, e']
      rw [valV_pos e, b]; exact h2
    · have e' : ¬ q.1 = k := fun z => e (h1.trans z)
      have b : atKey (q :: qs) k = atKey qs k := by simp [atKey, List.find?_cons, e']
      rw [valV_neg e, b]; exact ih
theorem KT.keeps {H H' : Hp} {kvs : List (List Key × V)} {xs : List (List Key × Addr × Value)} (r : KT H kvs xs) (ht : ∀ b ys, H b = some (.tup ys) → H' b = some (.tup ys)) : KT H' kvs xs :=
  Paired.mapP r fun _ _ z => ⟨z.1, ht _ _ z.2.1, z.2.2⟩
section
variable {P : Program} {w : World} {H : Hp} {h : Heap} {a : Addr}
end
def DGet (H : Hp) (a : Addr) (y : V) (r : Option V) : Prop :=
  (∃ kvs k, Rd H a (.dK kvs) ∧ y = kV k ∧ r = valV kvs k) ∨ ∃ kvs k b, Rd H a (.dT kvs) ∧ y = .ref b ∧ H b = some (.tup (k.map kV)) ∧ r = valV kvs k
def DPut (H : Hp) (a : Addr) (y v : V) (H' : Hp) : Prop :=
  (∃ kvs k, H a = some (.dK kvs) ∧ y = kV k ∧ kvs.length < sizeLine ∧ H' = upd H a (.dK (putK kvs k v))) ∨
  ∃ kvs k b, H a = some (.dT kvs) ∧ y = .ref b ∧ H b = some (.tup (k.map kV)) ∧ kvs.length < sizeLine ∧ H' = upd H a (.dT (putK kvs k v))
theorem DGet.k {H : Hp} {a : Addr} {kvs : List (Key × V)} {k : Key} (e : H a = some (.dK kvs)) : DGet H a (kV k) (valV kvs k) := .inl ⟨kvs, k, .inl e, rfl, rfl⟩
theorem DGet.t {H : Hp} {a b : Addr} {kvs : List (List Key × V)} {k : List Key} (e : H a = some (.dT kvs)) (eb : H b = some (.tup (k.map kV))) : DGet H a (.ref b) (valV kvs k) := .inr ⟨kvs, k, b, .inl e, rfl, eb, rfl⟩
theorem DPut.k {H : Hp} {a : Addr} {kvs : List (Key × V)} {k : Key} {v : V} (e : H a = some (.dK kvs)) (hl : kvs.length < sizeLine) : DPut H a (kV k) v (upd H a (.dK (putK kvs k v))) := .inl ⟨kvs, k, e, rfl, hl, rfl⟩
theorem DPut.t {H : Hp} {a b : Addr} {kvs : List (List Key × V)} {k : List Key} {v : V} (e : H a = some (.dT kvs)) (eb : H b = some (.tup (k.map kV))) (hl : kvs.length < sizeLine) :
    DPut H a (.ref b) v (upd H a (.dT (putK kvs k v))) := .inr ⟨kvs, k, b, e, rfl, eb, hl, rfl⟩
section
variable {X : Cx} {pins : List (Addr × Obj)} {σ : St} {H : Hp} {s : Shared} {a : Addr} {y v : V} {u r : Value} {o : Option V} {A : Around} {E : Value → Shared → Prop}
end
section
variable {X : Cx} {pins : List (Addr × Obj)} {σ : St} {H : Hp} {s : Shared} {a : Addr} {kvs : List (Key × V)} {k : Key} {u : Value} {A : Around} {E : Value → Shared → Prop}
end
section
variable {X : Cx} {o i e value : Expr} {pos pos' tpos : Pos} {td ty tv : TE}
end
section
variable {X : Cx} {pos : Pos}
end
section
variable {X : Cx} {pins : List (Addr × Obj)} {σ : St} {H : Hp} {s : Shared} {a : Addr} {y d : V} {u r : Value} {o : Option V} {A : Around} {E : Value → Shared → Prop}
end
section
variable {X : Cx} {o e f : Expr} {apos cpos : Pos} {td ty tx : TE}
end
section
variable {X : Cx} {pins : List (Addr × Obj)} {σ : St} {H : Hp} {s : Shared} {a : Addr} {kvs : List (Key × V)} {A : Around} {E : Value → Shared → Prop}
end
section
variable {X : Cx} {pins : List (Addr × Obj)} {σ : St} {H : Hp} {s : Shared} {a : Addr} {y : V} {u : Value} {A : Around} {E : Value → Shared → Prop}
end
end L2
namespace L2
open PySem PySem.Spec PyProof.Rows
section
variable {prog : Program} {w : World} {A : Around} {E : Value → Shared → Prop}
end
section
variable {X : Cx}
end
end L2
namespace L2
open PySem PySem.Spec PyProof.Rows
section
variable {X : Cx} {pins : List (Addr × Obj)} {σ : St} {H : Hp} {s : Shared} {h' : Heap}
end
section
variable {X : Cx}
end
def RgC (i j c : Int) (n : Nat) : Prop := c ≠ 0 ∧ c.natAbs < 1073741824 ∧ Builtin.Range.small i j c = true ∧ Builtin.Range.rangeSize i j c = n
theorem RgC.neg {i j : Int} (ha : -(2 ^ 62) ≤ i) (ha' : i < 2 ^ 62) (hb : -(2 ^ 62) ≤ j) (hb' : j < 2 ^ 62) : RgC i j (-1) (i - j).toNat :=
  ⟨by decide, by decide, PySem.W.small_down ha ha' hb hb', PySem.W.rangeSize_downNat i j⟩
section
variable {X : Cx} {tg : Expr}
end
section
variable {X : Cx} {tg : Expr}
end
section
variable {prog : Program} {w : World} {A : Around} {E : Value → Shared → Prop} {s : Shared}
end
section
variable {X : Cx} {pins : List (Addr × Obj)} {σ : St} {H : Hp} {s : Shared} {d : Addr} {o : Obj}
end
section
variable {P : Program} {w : World} {K : PySem.W.Frag} {tg : Expr} {d : Addr} {o : Obj} {es : Array DictEntry} {ep : Nat}
end
section
variable {X : Cx} {tg e : Expr} {td : TE} {apos cpos : Pos}
end
end L2
section 
namespace Bits
open PySem PyProof.Rows
end Bits
end 
section 
namespace TL
open PySem PySem.Builtin PySem.Builtin.Str PySem.StrLaws
abbrev tl (x : Str) : List Nat := x.cps.toList
def pre (S l : List Nat) : Bool := l.take S.length == S
def par (S : List Nat) : List Nat → List Nat → Option (List Nat × List Nat)
  | _, [] => none
  | acc, c :: r => if pre S (c :: r) = true then some (acc, (c :: r).drop S.length) else par S (acc ++ [c]) r
end TL
end 
namespace L2
open PySem PySem.Spec PyProof.Rows
section
variable {X : Cx} {pins : List (Addr × Obj)} {σ : St} {H : Hp} {s : Shared} {Q : VK}
end
section
variable {X : Cx}
end
section
variable {X : Cx} {o e : Expr} {to te : TE}
end
end L2
namespace L2
open PySem PySem.Spec PyProof.Rows
section
variable {X : Cx}
end
end L2
namespace Att
open PySem PySem.W PySem.Calls PyProof.Rows
section
variable {prog : Program} {w : World} {A : Around} {E : Value → Shared → Prop} {s : Shared} {K : Frag}
end
end Att
namespace L2
open PySem PySem.Spec PyProof.Rows
end L2
namespace L2
open PySem PySem.Spec PyProof.Rows
end L2
namespace L2
open PySem PySem.Spec PyProof.Rows
def defArgs (s : Stmt) : Arguments := match s with
  | .FunctionDef _ a _ _ _ _ _ _ _ _ => a
  | _ => { posonlyargs := [], args := [], vararg := none, kwonlyargs := [], kw_defaults := [], kwarg := none, defaults := [] }
def defBody (s : Stmt) : List Stmt := match s with
  | .FunctionDef _ _ b _ _ _ _ _ _ _ => b
  | _ => []
def defScope (s : Stmt) : Scope := match s with
  | .FunctionDef _ _ _ _ _ _ sc _ _ _ => sc
  | _ => { kind := .function, names := [], isGenerator := false, isCoroutine := false }
abbrev CX0 : CXT := fun _ _ _ _ _ _ => False
abbrev E0 : XK := fun _ _ _ => False
theorem pass0 {X : Cx} : Passes CX0 X E0 := fun _ _ _ _ _ _ _ h => h.elim
structure Fun (K : PySem.W.Frag) (x qual : Str) (st : Stmt) (f : Addr) (fd : FuncData) : Prop where
  ex : ∃ (oc : Value) (od : Option Addr) (kV doc pm : Value) (an : Option Addr) (cdv ct : Value) (osl : Array (Option Value)),
    fd = PySem.W.fnOf x qual (defArgs st) (defBody st) (defScope st) .none kV doc pm an cdv ct ∧ K.lookup f = some ⟨oc, od, .func fd, osl⟩ ∧ PySem.W.codeIn K cdv qual = true
  kp : PySem.W.keepIn K (.ref f) = true
section
variable {P : Program} {w : World} {K : PySem.W.Frag} {mg : Str → Option Value} {base : Heap}
theorem Fun.ok {x qual : Str} {st : Stmt} {f : Addr} {fd : FuncData} {N ps : List Str} {k : Nat} {sp : Sp} (F : Fun K x qual st f fd) (S : FnScope N ps (defScope st)) (len : ∀ vs H Q E, sp vs H Q E → vs.length = ps.length)
    (hbody : ∀ (cdv : Value) (A : Around) (outer : List Env) (s : Shared) (H : Hp) (vs : List V) (Q : VK) (E : XK), Room k (A.deeper (envOfC qual (defScope st) s.heap.objs.size f cdv)) → sp vs H Q E →
      ∃ t, PSs (cxOf CX0 P w K mg base N qual (defScope st) f cdv A outer s H E).nox (defBody st) t ∧ t { nx := fun _ H' => Q .non H', rt := Q } (start N vs) H) : FnOk P w K mg base CX0 (k + 1) f fd ps sp := by
  obtain ⟨oc, od, kV, doc, pm, an, cdv, ct, osl, rfl, lk, hcd⟩ := F.ex
  refine fn_of lk hcd S len fun A outer s H vs Q E hr hsp => ?_
  obtain ⟨t, h, q⟩ := hbody cdv A outer s H vs Q E hr hsp
  exact ⟨t, h.nox, q⟩
theorem Fun.binds {x qual : Str} {st : Stmt} {f : Addr} {fd : FuncData} {ps : List Str} (F : Fun K x qual st f fd)
    (h : ∀ (kV doc pm : Value) (an : Option Addr) (cdv ct : Value) (us : List Value), us.length = ps.length → bindArgs (PySem.W.fnOf x qual (defArgs st) (defBody st) (defScope st) .none kV doc pm an cdv ct) ⟨us, []⟩ = pure (ps.zip us)) : Binds K fd ps [] := by
  obtain ⟨oc, od, kV, doc, pm, an, cdv, ct, osl, rfl, lk, hcd⟩ := F.ex
  exact .all (h kV doc pm an cdv ct)
theorem fun_mk {x qual : Str} {st : Stmt} {f : Addr} {oc : Value} {od an : Option Addr} {osl : Array (Option Value)} {kV doc pm cdv ct : Value} (l : K.lookup f = some ⟨oc, od, .func (PySem.W.fnOf x qual (defArgs st) (defBody st) (defScope st) .none kV doc pm an cdv ct), osl⟩)
    (c : PySem.W.codeIn K cdv qual = true) (k : PySem.W.keepIn K (.ref f) = true) : Fun K x qual st f (PySem.W.fnOf x qual (defArgs st) (defBody st) (defScope st) .none kV doc pm an cdv ct) := ⟨⟨oc, od, kV, doc, pm, an, cdv, ct, osl, rfl, l, c⟩, k⟩
end
section
variable {X : Cx}
theorem pv (i : Nat) {x : Str} {pos : Pos} (hN : X.N[i]? = some x := by rfl) (hv : Vis X.env.scope x := by first | exact Or.inl rfl | exact Or.inr (Or.inl rfl) | exact Or.inr (Or.inr rfl)) (hd : (x == ("__debug__" : Str)) = false := by decide)
    (hcd : (x == ("__classdict__" : Str)) = false := by decide) : PE X (.Name x pos) (tVar i) := pe_var hN hv hd hcd
end
def Same (H H' : Hp) : Prop := ∀ b o, H b = some o → H' b = some o
theorem Same.refl (H : Hp) : Same H H := fun _ _ h => h
theorem Same.trans {H H1 H2 : Hp} (a : Same H H1) (b : Same H1 H2) : Same H H2 := fun c o h => b c o (a c o h)
theorem Same.free {H H' : Hp} (e : Same H H') {l : Addr} (h : H' l = Option.none) : H l = Option.none := by
  cases q : H l with
  | none => rfl
  | some o =>
    rw [e l o q] at h
    cases h
theorem Same.seq {K : PySem.W.Frag} {H H' : Hp} {a : Addr} {xs : List V} (e : Same H H') (h : SqL K H a xs) : SqL K H' a xs := by
  rcases h with (h | ⟨o, h⟩) | h
  · exact .inl (.inl (e _ _ h))
  · exact .inl (.inr ⟨o, e _ _ h⟩)
  · exact .inr h
section
variable {κ : Type} [DecidableEq κ]
end
end L2
end
section
set_option Elab.async false
set_option linter.all false
set_option maxRecDepth 100000
set_option maxHeartbeats 2000000
namespace L2
open PySem PySem.Spec PyProof.Rows
open PySem.W (WData Codec OpenSpec Well WellAll ReadsW ReadsAllW)
mutual
inductive Dw (K : PySem.W.Frag) (H : Hp) : V → WData → Prop
  | non : Dw K H .non .none
  | bl (b : Bool) : Dw K H (.bl b) (.bool b)
  | int (i : Int) : Dw K H (.int i) (.int i)
  | str (x : Str) : Dw K H (.str x) (.str x)
  | byt (b : Array UInt8) : Dw K H (.byt b) (.bytes b.toList)
  | lst {a : Addr} {xs : List V} {ds : List WData} : SqL K H a xs → DwAll K H xs ds → Dw K H (.ref a) (.list ds)
  | tup {a : Addr} {xs : List V} {ds : List WData} : SqT K H a xs → DwAll K H xs ds → Dw K H (.ref a) (.tuple ds)
inductive DwAll (K : PySem.W.Frag) (H : Hp) : List V → List WData → Prop
  | nil : DwAll K H [] []
  | cons {v : V} {vs : List V} {d : WData} {ds : List WData} : Dw K H v d → DwAll K H vs ds → DwAll K H (v :: vs) (d :: ds)
end
theorem dw_ints {K : PySem.W.Frag} {H : Hp} : ∀ ns : List Int, DwAll K H (ns.map V.int) (ns.map WData.int)
  | [] => .nil
  | n :: r => .cons (.int n) (dw_ints r)
theorem ints_dw {K : PySem.W.Frag} {H : Hp} : ∀ (ns : List Int) (xs : List V), DwAll K H xs (ns.map WData.int) → xs = ns.map V.int
  | [], xs, h => by
    cases h
    rfl
  | n :: r, xs, h => by
    cases h with
    | cons h1 h2 =>
      cases h1
      rw [ints_dw r _ h2] <;> rfl
section
variable {P : Program} {w : World} {K : PySem.W.Frag} {H : Hp} {h : Heap} {R : PySem.W.WRecords} {cl : Str → Option Addr}
theorem sqL_at {a : Addr} {xs : List V} (hok : HOk P w H h) (KX : K.In h) (q : SqL K H a xs) : ∃ (its : List Value) (o : Obj) (n : Nat), Vals xs its ∧ h.get? a = some o ∧ o.cls = .type "list" ∧ o.data = .seq its.toArray n := by
  rcases q with q | ⟨o, its, n, e, hc, _, hd, _, hv⟩
  · obtain ⟨_, its, n, hv, e⟩ := (show ObjOk P w H h a (.lst xs) from q.ok hok)
    exact ⟨its, _, n, hv, e, rfl, rfl⟩
  · exact ⟨its.toList, o, n, hv, KX _ _ e, hc, by simp [hd]⟩
theorem sqT_at {a : Addr} {xs : List V} (hok : HOk P w H h) (KX : K.In h) (q : SqT K H a xs) : ∃ (its : List Value) (o : Obj) (n : Nat), Vals xs its ∧ h.get? a = some o ∧ o.cls = .type "tuple" ∧ o.data = .seq its.toArray n := by
  rcases q with q | ⟨o, its, n, e, hc, hd, _, hv⟩
  · obtain ⟨_, its, hv, o, e, hc, n, hd⟩ := (show ObjOk P w H h a (.tup xs) from q.ok hok)
    exact ⟨its, o, n, hv, e, hc, hd⟩
  · exact ⟨its.toList, o, n, hv, KX _ _ e, hc, by simp [hd]⟩
mutual
theorem Dw.reads (hok : HOk P w H h) (KX : K.In h) : ∀ (d : WData) (v : V) (u : Value), Dw K H v d → RelV v u → ∃ as, ReadsW R cl h u d as
  | .none, _, _, x, r => by
    cases x
    cases r
    exact ⟨_, ReadsW.none⟩
  | .bool b, _, _, x, r => by
    cases x
    cases r
    exact ⟨_, ReadsW.bool b⟩
  | .int i, _, _, x, r => by
    cases x
    obtain ⟨t, rfl⟩ := r
    exact ⟨_, ReadsW.int i t⟩
  | .str s, _, _, x, r => by
    cases x
    obtain ⟨t, rfl⟩ := r
    exact ⟨_, ReadsW.str s t⟩
  | .bytes b, _, _, x, r => by
    cases x
    obtain ⟨t, rfl⟩ := r
    exact ⟨_, ReadsW.bytes _ t⟩
  | .list ds, _, _, x, r => by
    cases x with
    | lst hs ha =>
      cases r
      obtain ⟨its, o, n, rv, ho, hc, hd⟩ := sqL_at hok KX hs
      obtain ⟨as, hr⟩ := Dw.readsAll hok KX ds _ its ha rv
      exact ⟨_, ReadsW.list ho hc hd hr⟩
  | .tuple ds, _, _, x, r => by
    cases x with
    | tup hs ha =>
      cases r
      obtain ⟨its, o, n, rv, ho, hc, hd⟩ := sqT_at hok KX hs
      obtain ⟨as, hr⟩ := Dw.readsAll hok KX ds _ its ha rv
      exact ⟨_, ReadsW.tuple ho hc hd hr⟩
  | .float _, _, _, x, _ => by cases x
  | .dict _, _, _, x, _ => by cases x
  | .bytearray _, _, _, x, _ => by cases x
  | .set _, _, _, x, _ => by cases x
  | .frozenset _, _, _, x, _ => by cases x
  | .obj _ _, _, _, x, _ => by cases x
theorem Dw.readsAll (hok : HOk P w H h) (KX : K.In h) : ∀ (ds : List WData) (vs : List V) (us : List Value), DwAll K H vs ds → Vals vs us → ∃ as, ReadsAllW R cl h us ds as
  | [], _, _, x, r => by
    cases x
    cases r
    exact ⟨_, ReadsAllW.nil⟩
  | d :: ds, _, _, x, r => by
    cases x with
    | cons h1 h2 =>
      cases r with
      | cons r1 r2 =>
        obtain ⟨as, q1⟩ := Dw.reads hok KX d _ _ h1 r1
        obtain ⟨bs, q2⟩ := Dw.readsAll hok KX ds _ _ h2 r2
        exact ⟨_, ReadsAllW.cons q1 q2⟩
end
end
mutual
def plW : WData → Bool
  | .none => true
  | .bool _ => true
  | .int _ => true
  | .str _ => true
  | .bytes _ => true
  | .list xs => plWs xs
  | .tuple xs => plWs xs
  | _ => false
def plWs : List WData → Bool
  | [] => true
  | x :: r => plW x && plWs r
end
theorem plWs_map {α : Type} {f : α → WData} (h : ∀ a, plW (f a) = true) : ∀ l : List α, plWs (l.map f) = true
  | [] => rfl
  | x :: r => by
    show (plW (f x) && plWs (r.map f)) = true
    rw [h x, plWs_map h r] <;> rfl
theorem pl_enc : ∀ (c : Codec) (a : c.denote), plW (c.enc a) = true
  | .unit, _ => rfl
  | .bool, _ => rfl
  | .int _ _, _ => rfl
  | .nat _ _, _ => rfl
  | .u8, _ => rfl
  | .bytes _ _, _ => rfl
  | .text _ _ _ _, _ => rfl
  | .list _ _ c, a => plWs_map (fun x => pl_enc c x) a
  | .pair c d, a => by
    show (plW (c.enc a.1) && (plW (d.enc a.2) && true)) = true
    rw [pl_enc c a.1, pl_enc d a.2] <;> rfl
  | .triple c d e, a => by
    show (plW (c.enc a.1) && (plW (d.enc a.2.1) && (plW (e.enc a.2.2) && true))) = true
    rw [pl_enc c a.1, pl_enc d a.2.1, pl_enc e a.2.2] <;> rfl
  | .option c, none => rfl
  | .option c, some x => pl_enc c x
theorem pl_encAll : ∀ (cs : List Codec) (a : Codec.denoteAll cs), plWs (Codec.encAll cs a) = true
  | [], _ => rfl
  | c :: cs, a => by
    show (plW (c.enc a.1) && plWs (Codec.encAll cs a.2)) = true
    rw [pl_enc c a.1, pl_encAll cs a.2] <;> rfl
theorem weight_mem : ∀ {xs : List WData} {d : WData}, d ∈ xs → d.weight ≤ WData.weightAll xs
  | [], d, h => absurd h (by simp)
  | x :: r, d, h => by
    show d.weight ≤ x.weight + 1 + WData.weightAll r
    rcases List.mem_cons.mp h with e | m
    · rw [e]
      omega
    · have z := weight_mem m
      omega
def toV : Value → V
  | .none => .non
  | .bool b => .bl b
  | .int i _ => .int i
  | .str x _ => .str x
  | .bytes b _ => .byt b
  | .ref a => .ref a
  | _ => .non
def OkU (A : List Addr) : Value → Prop
  | .none => True
  | .bool _ => True
  | .int _ _ => True
  | .str _ _ => True
  | .bytes _ _ => True
  | .ref a => a ∈ A
  | _ => False
theorem OkU.mono {A B : List Addr} (h : ∀ a ∈ A, a ∈ B) : ∀ {u : Value}, OkU A u → OkU B u := fun {u} x => by
  cases u with
  | ref a => exact h a x
  | none => trivial
  | bool b => trivial
  | int i t => trivial
  | str s t => trivial
  | bytes b t => trivial
  | _ => exact False.elim x
theorem relV_toV {A : List Addr} {u : Value} (x : OkU A u) : RelV (toV u) u := by
  cases u with
  | ref a => rfl
  | none => rfl
  | bool b => rfl
  | int i t => exact ⟨t, rfl⟩
  | str s t => exact ⟨t, rfl⟩
  | bytes b t => exact ⟨t, rfl⟩
  | _ => exact False.elim x
theorem vals_toV {A : List Addr} : ∀ {vs : List Value}, (∀ u ∈ vs, OkU A u) → Vals (vs.map toV) vs
  | [], _ => .nil
  | u :: r, h => .cons (relV_toV (h u (List.mem_cons_self ..))) (vals_toV fun x hx => h x (List.mem_cons_of_mem _ hx))
def ArgOb (h : Heap) (A : List Addr) (a : Addr) : Prop := ∃ vs : List Value, vs.length ≤ sizeLine ∧ (∀ u ∈ vs, OkU A u) ∧
  (h.get? a = some { cls := .type "list", data := .seq vs.toArray } ∨ h.get? a = some { cls := .type "tuple", data := .seq vs.toArray })
theorem ArgOb.mono {h : Heap} {A B : List Addr} {a : Addr} (k : ∀ a ∈ A, a ∈ B) (x : ArgOb h A a) : ArgOb h B a := by
  obtain ⟨vs, h1, h2, h3⟩ := x
  exact ⟨vs, h1, fun u hu => (h2 u hu).mono k, h3⟩
theorem wellAll_len {P : Params} {h : Heap} : ∀ {vs : List Value} {ds : List WData}, WellAll P h vs ds → vs.length = ds.length
  | _, _, .nil => rfl
  | _, _, .cons _ b => by
    show _ + 1 = _ + 1
    rw [wellAll_len b]
theorem well_list {P : Params} {h : Heap} {v : Value} {ds : List WData} (x : Well P h v (.list ds)) : ∃ (a : Addr) (vs : List Value), v = .ref a ∧ h.get? a = some { cls := .type "list", data := .seq vs.toArray } ∧ WellAll P h vs ds := by
  cases x with
  | list ho hall => exact ⟨_, _, rfl, ho, hall⟩
theorem well_tuple {P : Params} {h : Heap} {v : Value} {ds : List WData} (x : Well P h v (.tuple ds)) : ∃ (a : Addr) (vs : List Value), v = .ref a ∧ h.get? a = some { cls := .type "tuple", data := .seq vs.toArray } ∧ WellAll P h vs ds := by
  cases x with
  | tuple ho hall => exact ⟨_, _, rfl, ho, hall⟩
theorem well_cons {P : Params} {h : Heap} {us : List Value} {d : WData} {ds : List WData} (x : WellAll P h us (d :: ds)) : ∃ (v : Value) (vs : List Value), us = v :: vs ∧ Well P h v d ∧ WellAll P h vs ds := by
  cases x with
  | cons a b => exact ⟨_, _, rfl, a, b⟩
theorem line_of {n : Nat} (h : n ≤ 1048576) : n ≤ sizeLine := Nat.le_trans h (by decide)
section
variable {P : Params} {h : Heap}
mutual
theorem area_one : ∀ (d : WData) (v : Value), Well P h v d → plW d = true → d.weight ≤ 1048576 → ∃ A : List Addr, OkU A v ∧ ∀ a ∈ A, ArgOb h A a
  | .none, _, x, _, _ => by
    cases x
    exact ⟨[], trivial, fun a m => absurd m (by simp)⟩
  | .bool b, _, x, _, _ => by
    cases x
    exact ⟨[], trivial, fun a m => absurd m (by simp)⟩
  | .int i, _, x, _, _ => by
    cases x
    exact ⟨[], trivial, fun a m => absurd m (by simp)⟩
  | .str s, _, x, _, _ => by
    cases x
    exact ⟨[], trivial, fun a m => absurd m (by simp)⟩
  | .bytes b, _, x, _, _ => by
    cases x
    exact ⟨[], trivial, fun a m => absurd m (by simp)⟩
  | .list ds, _, x, p, z => by
    obtain ⟨a, vs, rfl, ho, hall⟩ := well_list x
    have z2 : WData.weightAll ds ≤ 1048576 := z
    obtain ⟨A, h1, h2⟩ := area_all ds _ hall p fun d hd => Nat.le_trans (weight_mem hd) z2
    have k : ∀ b ∈ A, b ∈ a :: A := fun b hb => List.mem_cons_of_mem _ hb
    refine ⟨a :: A, List.mem_cons_self .., fun b hb => ?_⟩
    rcases List.mem_cons.mp hb with e | m
    · rw [e]
      exact ⟨vs, line_of (by rw [wellAll_len hall]; exact Nat.le_trans (PySem.W.length_le_weightAllW ds) z2), fun u hu => (h1 u hu).mono k, .inl ho⟩
    · exact (h2 b m).mono k
  | .tuple ds, _, x, p, z => by
    obtain ⟨a, vs, rfl, ho, hall⟩ := well_tuple x
    have z2 : WData.weightAll ds ≤ 1048576 := z
    obtain ⟨A, h1, h2⟩ := area_all ds _ hall p fun d hd => Nat.le_trans (weight_mem hd) z2
    have k : ∀ b ∈ A, b ∈ a :: A := fun b hb => List.mem_cons_of_mem _ hb
    refine ⟨a :: A, List.mem_cons_self .., fun b hb => ?_⟩
    rcases List.mem_cons.mp hb with e | m
    · rw [e]
      exact ⟨vs, line_of (by rw [wellAll_len hall]; exact Nat.le_trans (PySem.W.length_le_weightAllW ds) z2), fun u hu => (h1 u hu).mono k, .inr ho⟩
    · exact (h2 b m).mono k
  | .float _, _, _, p, _ => Bool.noConfusion (show false = true from p)
  | .dict _, _, _, p, _ => Bool.noConfusion (show false = true from p)
  | .bytearray _, _, _, p, _ => Bool.noConfusion (show false = true from p)
  | .set _, _, _, p, _ => Bool.noConfusion (show false = true from p)
  | .frozenset _, _, _, p, _ => Bool.noConfusion (show false = true from p)
  | .obj _ _, _, _, p, _ => Bool.noConfusion (show false = true from p)
theorem area_all : ∀ (ds : List WData) (vs : List Value), WellAll P h vs ds → plWs ds = true → (∀ d ∈ ds, d.weight ≤ 1048576) → ∃ A : List Addr, (∀ u ∈ vs, OkU A u) ∧ ∀ a ∈ A, ArgOb h A a
  | [], _, x, _, _ => by
    cases x
    exact ⟨[], fun u m => absurd m (by simp), fun a m => absurd m (by simp)⟩
  | d :: ds, _, x, p, z => by
    obtain ⟨v, vs, rfl, x1, x2⟩ := well_cons x
    have q : plW d = true ∧ plWs ds = true := Bool.and_eq_true_iff.mp p
    obtain ⟨A, a1, a2⟩ := area_one d v x1 q.1 (z d (List.mem_cons_self ..))
    obtain ⟨B, b1, b2⟩ := area_all ds vs x2 q.2 fun e he => z e (List.mem_cons_of_mem _ he)
    have kA : ∀ b ∈ A, b ∈ A ++ B := fun b hb => List.mem_append.mpr (.inl hb)
    have kB : ∀ b ∈ B, b ∈ A ++ B := fun b hb => List.mem_append.mpr (.inr hb)
    refine ⟨A ++ B, fun u hu => ?_, fun b hb => ?_⟩
    · rcases List.mem_cons.mp hu with e | m
      · rw [e]
        exact a1.mono kA
      · exact (b1 u m).mono kB
    · rcases List.mem_append.mp hb with m | m
      · exact (a2 b m).mono kA
      · exact (b2 b m).mono kB
end
end
def hoOf (o : Obj) : Option HO := match o.data with
  | .seq vs _ => if (o.cls == Value.type "list") = true then some (.frz o (.lst (vs.toList.map toV))) else some (.frz o (.tup (vs.toList.map toV)))
  | _ => none
def argH (K : PySem.W.Frag) (h : Heap) (A : List Addr) : Hp := fun b => if b ∈ A then (if (K.lookup b).isNone = true then (h.get? b).bind hoOf else none) else none
def OnlyF (H : Hp) : Prop := ∀ b, H b = none ∨ ∃ o u, H b = some (.frz o u)
theorem hoOf_lst (vs : List Value) : hoOf { cls := .type "list", data := .seq vs.toArray } = some (.frz { cls := .type "list", data := .seq vs.toArray } (.lst (vs.map toV))) := by
  show (if (Value.type "list" == Value.type "list") = true then some (HO.frz { cls := .type "list", data := .seq vs.toArray } (.lst (vs.toArray.toList.map toV))) else some (HO.frz { cls := .type "list", data := .seq vs.toArray } (.tup (vs.toArray.toList.map toV)))) = _
  rw [if_pos (beq_self_eq_true _)]
theorem hoOf_tup (vs : List Value) : hoOf { cls := .type "tuple", data := .seq vs.toArray } = some (.frz { cls := .type "tuple", data := .seq vs.toArray } (.tup (vs.map toV))) := by
  show (if (Value.type "tuple" == Value.type "list") = true then some (HO.frz { cls := .type "tuple", data := .seq vs.toArray } (.lst (vs.toArray.toList.map toV))) else some (HO.frz { cls := .type "tuple", data := .seq vs.toArray } (.tup (vs.toArray.toList.map toV)))) = _
  rw [if_neg (by decide)]
section
variable {P : Program} {w : World} {K : PySem.W.Frag} {h : Heap} {A : List Addr}
theorem argH_at {b : Addr} {o : Obj} (hb : b ∈ A) (hk : K.lookup b = none) (e : h.get? b = some o) : argH K h A b = hoOf o := by
  unfold argH
  rw [if_pos hb, hk, if_pos (show (none : Option Obj).isNone = true from rfl), e] <;> rfl
theorem of_argH {b : Addr} {u : HO} (q : argH K h A b = some u) : b ∈ A ∧ K.lookup b = none := by
  unfold argH at q
  by_cases hb : b ∈ A
  · rw [if_pos hb] at q
    cases hk : K.lookup b with
    | none => exact ⟨hb, rfl⟩
    | some o =>
      rw [hk, if_neg (by simp)] at q
      cases q
  · rw [if_neg hb] at q
    cases q
theorem argH_is (ar : ∀ a ∈ A, ArgOb h A a) {b : Addr} {u : HO} (q : argH K h A b = some u) : K.lookup b = none ∧ ∃ vs : List Value, vs.length ≤ sizeLine ∧ (∀ u ∈ vs, OkU A u) ∧
    ((h.get? b = some { cls := .type "list", data := .seq vs.toArray } ∧ u = .frz { cls := .type "list", data := .seq vs.toArray } (.lst (vs.map toV))) ∨
     (h.get? b = some { cls := .type "tuple", data := .seq vs.toArray } ∧ u = .frz { cls := .type "tuple", data := .seq vs.toArray } (.tup (vs.map toV)))) := by
  obtain ⟨hb, hk⟩ := of_argH q
  obtain ⟨vs, h1, h2, h3⟩ := ar b hb
  refine ⟨hk, vs, h1, h2, ?_⟩
  rcases h3 with e | e
  · rw [argH_at hb hk e, hoOf_lst] at q
    exact .inl ⟨e, (Option.some.inj q).symm⟩
  · rw [argH_at hb hk e, hoOf_tup] at q
    exact .inr ⟨e, (Option.some.inj q).symm⟩
theorem argH_only (ar : ∀ a ∈ A, ArgOb h A a) : OnlyF (argH K h A) := fun b => by
  cases q : argH K h A b with
  | none => exact .inl rfl
  | some u =>
    obtain ⟨_, vs, _, _, ⟨_, e⟩ | ⟨_, e⟩⟩ := argH_is ar q
    · exact .inr ⟨_, _, by rw [e]⟩
    · exact .inr ⟨_, _, by rw [e]⟩
theorem argH_ok (ar : ∀ a ∈ A, ArgOb h A a) : HOk P w (argH K h A) h := fun b u q => by
  obtain ⟨_, vs, h1, h2, ⟨e, rfl⟩ | ⟨e, rfl⟩⟩ := argH_is ar q
  · exact ⟨e, by rw [List.length_map]; exact h1, vs, _, vals_toV h2, e⟩
  · exact ⟨e, by rw [List.length_map]; exact h1, vs, vals_toV h2, _, e, rfl, _, rfl⟩
theorem seq_inj {c c' : Value} {vs us : List Value} (e : (some { cls := c, data := .seq vs.toArray } : Option Obj) = some { cls := c', data := .seq us.toArray }) : c = c' ∧ vs = us := by
  have e1 := Option.some.inj e
  have e2 : c = c' := congrArg Obj.cls e1
  have e3 : Data.seq vs.toArray = Data.seq us.toArray := congrArg Obj.data e1
  injection e3 with e4
  refine ⟨e2, ?_⟩
  have e5 := congrArg Array.toList e4
  simpa using e5
theorem argL (KX : K.In h) (ar : ∀ a ∈ A, ArgOb h A a) {a : Addr} {vs : List Value} (ha : a ∈ A) (e : h.get? a = some { cls := .type "list", data := .seq vs.toArray }) : (∀ u ∈ vs, OkU A u) ∧ SqL K (argH K h A) a (vs.map toV) := by
  obtain ⟨us, h1, h2, h3⟩ := ar a ha
  have hu : us = vs := by
    rcases h3 with q | q
    · rw [e] at q
      exact (seq_inj q).2.symm
    · rw [e] at q
      exact absurd (Value.type.inj (seq_inj q).1) (by decide)
  subst hu
  refine ⟨h2, ?_⟩
  cases hk : K.lookup a with
  | none => exact .inl (.inr ⟨_, by rw [argH_at ha hk e, hoOf_lst]⟩)
  | some o =>
    have e2 := KX a o hk
    rw [e] at e2
    obtain rfl := Option.some.inj e2
    exact .inr ⟨_, us.toArray, _, hk, rfl, rfl, rfl, by rw [List.size_toArray]; exact h1, by simpa using vals_toV h2⟩
theorem argT (KX : K.In h) (ar : ∀ a ∈ A, ArgOb h A a) {a : Addr} {vs : List Value} (ha : a ∈ A) (e : h.get? a = some { cls := .type "tuple", data := .seq vs.toArray }) : (∀ u ∈ vs, OkU A u) ∧ SqT K (argH K h A) a (vs.map toV) := by
  obtain ⟨us, h1, h2, h3⟩ := ar a ha
  have hu : us = vs := by
    rcases h3 with q | q
    · rw [e] at q
      exact absurd (Value.type.inj (seq_inj q).1) (by decide)
    · rw [e] at q
      exact (seq_inj q).2.symm
  subst hu
  refine ⟨h2, ?_⟩
  cases hk : K.lookup a with
  | none => exact .inl (.inr ⟨_, by rw [argH_at ha hk e, hoOf_tup]⟩)
  | some o =>
    have e2 := KX a o hk
    rw [e] at e2
    obtain rfl := Option.some.inj e2
    exact .inr ⟨_, us.toArray, _, hk, rfl, rfl, by rw [List.size_toArray]; exact h1, by simpa using vals_toV h2⟩
mutual
theorem dw_one {Pm : Params} (KX : K.In h) (ar : ∀ a ∈ A, ArgOb h A a) : ∀ (d : WData) (v : Value), Well Pm h v d → plW d = true → OkU A v → Dw K (argH K h A) (toV v) d
  | .none, _, x, _, _ => by
    cases x
    exact .non
  | .bool b, _, x, _, _ => by
    cases x
    exact .bl b
  | .int i, _, x, _, _ => by
    cases x
    exact .int i
  | .str s, _, x, _, _ => by
    cases x
    exact .str s
  | .bytes b, _, x, _, _ => by
    cases x
    have z := Dw.byt (K := K) (H := argH K h A) b.toArray
    exact z
  | .list ds, _, x, p, hu => by
    obtain ⟨a, vs, rfl, ho, hall⟩ := well_list x
    obtain ⟨h2, hs⟩ := argL KX ar hu ho
    exact .lst hs (dw_all KX ar ds _ hall p h2)
  | .tuple ds, _, x, p, hu => by
    obtain ⟨a, vs, rfl, ho, hall⟩ := well_tuple x
    obtain ⟨h2, hs⟩ := argT KX ar hu ho
    exact .tup hs (dw_all KX ar ds _ hall p h2)
  | .float _, _, _, p, _ => Bool.noConfusion (show false = true from p)
  | .dict _, _, _, p, _ => Bool.noConfusion (show false = true from p)
  | .bytearray _, _, _, p, _ => Bool.noConfusion (show false = true from p)
  | .set _, _, _, p, _ => Bool.noConfusion (show false = true from p)
  | .frozenset _, _, _, p, _ => Bool.noConfusion (show false = true from p)
  | .obj _ _, _, _, p, _ => Bool.noConfusion (show false = true from p)
theorem dw_all {Pm : Params} (KX : K.In h) (ar : ∀ a ∈ A, ArgOb h A a) : ∀ (ds : List WData) (vs : List Value), WellAll Pm h vs ds → plWs ds = true → (∀ u ∈ vs, OkU A u) → DwAll K (argH K h A) (vs.map toV) ds
  | [], _, x, _, _ => by
    cases x
    exact .nil
  | d :: ds, _, x, p, hu => by
    obtain ⟨v, vs, rfl, x1, x2⟩ := well_cons x
    have q : plW d = true ∧ plWs ds = true := Bool.and_eq_true_iff.mp p
    exact .cons (dw_one KX ar d v x1 q.1 (hu _ (List.mem_cons_self ..))) (dw_all KX ar ds vs x2 q.2 fun u m => hu u (List.mem_cons_of_mem _ m))
end
end
theorem spec_call {P : Program} {w : World} {K : PySem.W.Frag} {mg mb : Str → Option Value} {CX : CXT} {k : Nat} {fa : Addr} {fd : FuncData} {ps : List Str} {sp : Sp} {s₁ : Shared} {vals : List Value} {ds : List WData} {R : PySem.W.WRecords} {cl : Str → Option Addr} {d0 : WData}
    (KX : K.In s₁.heap) (hns : s₁.heap.Ns mainGlobals mg) (hb : s₁.heap.Ns builtinsNs mb) (hbb : ∀ x : Str, x ≠ "__name__" → mb x = bootBuiltins x) (hlim : s₁.heap.NoLimit) (hg : s₁.gens = #[])
    (hwl : WellAll w.params s₁.heap vals ds) (hpl : plWs ds = true) (hwt : ∀ d ∈ ds, d.weight ≤ 1048576) (hr : Room k callerA)
    (F : ∀ base : Heap, K.In base → base.Ns mainGlobals mg → FnOk P w K mg base CX k fa fd ps sp) (hbind : ∀ (s : Shared) (us : List Value), us.length = ps.length → BindsTo s fd ⟨us, []⟩ (ps.zip us)) (hlen : ds.length = ps.length)
    (hsp : ∀ (H : Hp) (xs : List V), OnlyF H → DwAll K H xs ds → sp xs H (fun v H' => Dw K H' v d0) fun _ _ _ => False)
    (hCX : ∀ H e s', CX [] H s₁ (fun _ _ _ => False) e s' → False) :
    codeAny (model P w) callerA (.call (.ref fa) ⟨vals, []⟩) (fun r s' => ∃ u as, r = .ok (.ret u) ∧ ReadsW R cl s'.heap u d0 as ∧ OldK s₁.heap s'.heap ∧ s'.os = s₁.os ∧ AllBare s'.gens) s₁ := by
  obtain ⟨A, ho, ar⟩ := area_all ds vals hwl hpl hwt
  have hO : OnlyF (argH K s₁.heap A) := argH_only ar
  have hok : HOk P w (argH K s₁.heap A) s₁.heap := argH_ok ar
  have hS := dw_all KX ar ds vals hwl hpl ho
  have hV := vals_toV ho
  have hK : ∀ b u, argH K s₁.heap A b = some u → K.lookup b = none := fun b u q => (argH_is ar q).1
  have noA : ∀ {b : Addr} {o : Obj} {es : Array DictEntry} {ep : Nat}, s₁.heap.get? b = some o → o.data = .dict es ep → argH K s₁.heap A b = none := fun {b o es ep} e d => by
    cases q : argH K s₁.heap A b with
    | none => rfl
    | some u =>
      obtain ⟨_, vs, _, _, ⟨e2, _⟩ | ⟨e2, _⟩⟩ := argH_is ar q
      · rw [e2] at e
        cases e
        have d' : Data.seq vs.toArray _ = Data.dict es ep := d
        cases d'
      · rw [e2] at e
        cases e
        have d' : Data.seq vs.toArray _ = Data.dict es ep := d
        cases d'
  generalize argH K s₁.heap A = H at hO hok hS hK noA
  have base_of : ∀ {b : Addr} {o : Obj}, s₁.heap.get? b = some o → H b = none → (hidT s₁.heap H).get? b = some o := fun e n => hidT_get e n
  have nsK : ∀ {b : Addr} {m : Str → Option Value}, s₁.heap.Ns b m → (hidT s₁.heap H).Ns b m := fun {b m} ⟨o, es, ep, e, d, r⟩ => ⟨o, es, ep, base_of e (noA e d), d, r⟩
  have nK : ∀ b o, K.lookup b = some o → H b = none := fun b o e => by
    cases q : H b with
    | none => rfl
    | some u =>
      rw [hK b u q] at e
      cases e
  have hKb : K.In (hidT s₁.heap H) := fun b o e => base_of (KX b o e) (nK b o e)
  have hM : Mod K mg (hidT s₁.heap H) := ⟨hKb, nsK hns, ⟨mb, nsK hb, hbb⟩, let ⟨mc, h1, h2⟩ := hlim; ⟨mc, nsK h1, h2⟩⟩
  have e0 : Env0 P w K mg (hidT s₁.heap H) callerA [] s₁ H := ⟨rfl, hM, fun b o e => of_hidT e, Nat.le_of_eq (hidT_size _ _), trivial, fun b hb => absurd (show b ∈ ([] : List Addr) from hb) (by simp), hok, .of_eq hg⟩
  have hl : vals.length = ps.length := by rw [wellAll_len hwl]; exact hlen
  refine codeAny_mono ((F _ hKb (nsK hns)).run callerA [] s₁ H ⟨vals, []⟩ vals (vals.map toV) _ _ hr e0 (hbind s₁ vals hl) hV (hsp H _ hO hS)) fun r s' x => ?_
  cases r with
  | error e => exact (hCX H e s' x).elim
  | ok fl =>
    cases fl with
    | next => exact False.elim x
    | brk => exact False.elim x
    | cont => exact False.elim x
    | ret u =>
      obtain ⟨v, H', os, bare, un, hok', r', q⟩ := x
      have kept : ∀ b o, s₁.heap.get? b = some o → s'.heap.get? b = some o := fun b o e => by
        cases q2 : H b with
        | none => exact un.keep b o e q2 (by intro z; exact absurd (show b ∈ ([] : List Addr) from z) (by simp)) (by simp)
        | some u2 =>
          rcases hO b with z | ⟨ob, u3, z⟩
          · rw [q2] at z
            cases z
          · have z2 := un.frzs b ob _ z
            obtain ⟨e1, _⟩ := hok b _ z
            obtain ⟨e2, _⟩ := hok' b _ z2
            rw [e] at e1
            cases e1
            exact e2
      have KX' : K.In s'.heap := fun b o e => kept b o (KX b o e)
      obtain ⟨as, hrd⟩ := Dw.reads (R := R) (cl := cl) hok' KX' d0 v u q r'
      exact ⟨u, as, rfl, hrd, OldK.of_keep kept, os, bare⟩
theorem layable_weight {ds : List WData} (h : WData.layableAll ds = true) : ∀ d ∈ ds, d.weight ≤ 1048576 := fun d hd =>
  (PySem.W.layableW_iff.mp (List.all_eq_true.mp h d hd)).2.2
theorem encAll_len : ∀ (cs : List Codec) (a : Codec.denoteAll cs), (Codec.encAll cs a).length = cs.length
  | [], _ => rfl
  | c :: cs, a => by
    show (Codec.encAll cs a.2).length + 1 = cs.length + 1
    rw [encAll_len cs a.2]
theorem walk_spec {r : OpenSpec} {k : Nat} {q : Program} {loose : List Str} {XP : (Str → Option Value) → Heap → Prop} {YP : World → Heap → Prop} {d : DefRec} {K : Params → PySem.W.Frag} {CX : World → CXT} {ps : List Str} {sp : World → Sp}
    (hwell : r.wellSaid = true) (hdf : d.params.defaults = []) (hlen : r.args.length = ps.length) (hr : Room k callerA)
    (hY : ∀ (w : World) (h : Heap), YP w h → (K w.params).In h)
    (F : ∀ (w : World) (mg : Str → Option Value) (fa : Addr) (h : Heap), YP w h → (K w.params).In h → h.Ns mainGlobals mg → mg d.name = some (.ref fa) →
      ∃ fd : FuncData, (∀ (s : Shared) (us : List Value), us.length = ps.length → BindsTo s fd ⟨us, []⟩ (ps.zip us)) ∧
        ∀ base : Heap, (K w.params).In base → base.Ns mainGlobals mg → FnOk r.prog w (K w.params) mg base (CX w) k fa fd ps (sp w))
    (hsp : ∀ (w : World) (H : Hp) (xs : List V) (a : Codec.denoteAll r.args), OnlyF H → Codec.withinAll r.args a = true → Codec.app r.args r.asked a = true → DwAll (K w.params) H xs (Codec.encAll r.args a) →
      sp w xs H (fun v H' => Dw (K w.params) H' v (r.ret.enc (Codec.app r.args r.f a))) fun _ _ _ => False)
    (hCX : ∀ (w : World) (H : Hp) (s : Shared) (e : Value) (s' : Shared), CX w [] H s (fun _ _ _ => False) e s' → False) :
    PySem.W.WalkOS q loose XP YP r d [] (fun f vs => PySem.call f vs) := by
  intro w s_0 s₁ mg mb G Y fa o pm cd doc dV kV ho hd hcd hD hmg hg args vals as hpre hlay hrd hwl hlo
  obtain ⟨a, e1, e2⟩ := PySem.W.os_pre_some hpre
  obtain ⟨e3, hwi⟩ := Codec.encAll_of_decAll r.args args a e1
  subst e3
  have KX := hY w _ Y
  obtain ⟨fd, hb, hF⟩ := F w mg fa _ Y KX G.T.g hmg
  refine PySem.W.enter_call (codeAny_mono (spec_call (R := []) (cl := classAt s_0.heap) (d0 := r.ret.enc (Codec.app r.args r.f a)) KX G.T.g G.T.b G.T.builtins G.T.nolimit hg hwl (pl_encAll _ _) (layable_weight hlay) hr hF hb (by rw [encAll_len]; exact hlen)
    (fun H xs hO hS => hsp w H xs a hO hwi e2 hS) fun H e s' => hCX w H s₁ e s') fun r' s' hq => ?_)
  obtain ⟨u, as', rfl, h1, h2, h3, h4⟩ := hq
  exact ⟨.inl ⟨u, _, as', rfl, fun _ => rfl, h1, (OpenSpec.post_iff hwell hwi _ _).mpr rfl, fun z => Bool.noConfusion (show false = true from z)⟩, h2, h3, h4⟩
theorem walk_specK {r : OpenSpec} {k : Nat} {q : Program} {loose : List Str} {XP : (Str → Option Value) → Heap → Prop} {YP : World → Heap → Prop} {d : DefRec} {K : Params → PySem.W.Frag} {CX : CXT} {ps : List Str} {sp : PySem.W.Frag → Sp}
    (hwell : r.wellSaid = true) (hdf : d.params.defaults = []) (hlen : r.args.length = ps.length) (hr : Room k callerA)
    (hY : ∀ (w : World) (h : Heap), YP w h → (K w.params).In h)
    (F : ∀ (w : World) (mg : Str → Option Value) (fa : Addr) (h : Heap), YP w h → (K w.params).In h → h.Ns mainGlobals mg → mg d.name = some (.ref fa) →
      ∃ fd : FuncData, (∀ (s : Shared) (us : List Value), us.length = ps.length → BindsTo s fd ⟨us, []⟩ (ps.zip us)) ∧
        ∀ base : Heap, (K w.params).In base → base.Ns mainGlobals mg → FnOk r.prog w (K w.params) mg base CX k fa fd ps (sp (K w.params)))
    (hsp : ∀ (K : PySem.W.Frag) (H : Hp) (xs : List V) (a : Codec.denoteAll r.args), OnlyF H → Codec.withinAll r.args a = true → Codec.app r.args r.asked a = true → DwAll K H xs (Codec.encAll r.args a) →
      sp K xs H (fun v H' => Dw K H' v (r.ret.enc (Codec.app r.args r.f a))) fun _ _ _ => False)
    (hCX : ∀ (H : Hp) (s : Shared) (e : Value) (s' : Shared), CX [] H s (fun _ _ _ => False) e s' → False) :
    PySem.W.WalkOS q loose XP YP r d [] (fun f vs => PySem.call f vs) :=
  walk_spec (K := K) (CX := fun _ => CX) (sp := fun w => sp (K w.params)) hwell hdf hlen hr hY F (fun w H xs a h1 h2 h3 h4 => hsp (K w.params) H xs a h1 h2 h3 h4) fun _ H s e s' => hCX H s e s'
end L2
end
section
set_option Elab.async false
set_option linter.all false
set_option maxRecDepth 100000
set_option maxHeartbeats 1000000
noncomputable section
namespace Dn
open L2
open PySem.W (WData)
def yes (q : Prop) : Bool := @decide q (Classical.propDecidable q)
theorem yes_of {q : Prop} (h : q) : yes q = true := by unfold yes; exact @decide_eq_true q (Classical.propDecidable q) h
theorem of_yes {q : Prop} (h : yes q = true) : q := @of_decide_eq_true q (Classical.propDecidable q) h
inductive Sl where
  | val (d : WData)
  | own (ds : List WData)
abbrev Rho := List (Option Sl)
def wipeR (ρ : Rho) : List Nat → Rho
  | [] => ρ
  | v :: vs => (wipeR ρ vs).set v none
def freeze (i : Nat) (ρ : Rho) : Rho := match ρ[i]? with
  | some (some (Sl.own ds)) => ρ.set i (some (.val (.list ds)))
  | _ => ρ
abbrev DE := Rho → Option WData
abbrev DT := Rho → Option Bool
abbrev DA := Rho → Option (List WData)
def dVar (i : Nat) : DE := fun ρ => match ρ[i]? with
  | some (some (.val d)) => some d
  | _ => none
def dC (d : WData) : DE := fun _ => some d
def dOp (h : WData → WData → Option WData) (f g : DE) : DE := fun ρ => (f ρ).bind fun x => (g ρ).bind fun y => h x y
def hI (g : Int → Int → Option WData) : WData → WData → Option WData
  | .int i, .int j => g i j
  | _, _ => none
def hAdd : WData → WData → Option WData := hI fun i j => some (.int (i + j))
def hSub : WData → WData → Option WData := hI fun i j => some (.int (i - j))
def cMul (i j : Int) : Bool := yes ((-(2 ^ 64) < i ∧ i < 2 ^ 64) ∨ (-(2 ^ 64) < j ∧ j < 2 ^ 64))
def hMul : WData → WData → Option WData := hI fun i j => if cMul i j = true then some (.int (i * j)) else none
def cMod (_i j : Int) : Bool := yes (0 < j)
def hMod : WData → WData → Option WData := hI fun i j => if cMod i j = true then some (.int (i % j)) else none
def cDiv (_i j : Int) : Bool := yes (0 < j ∧ j < 1073741824)
def hDiv : WData → WData → Option WData := hI fun i j => if cDiv i j = true then some (.int (i / j)) else none
def hLt : WData → WData → Option WData := hI fun i j => some (.bool (decide (i < j)))
def hLe : WData → WData → Option WData := hI fun i j => some (.bool (decide (i ≤ j)))
def hGt : WData → WData → Option WData := hI fun i j => some (.bool (decide (j < i)))
def hGe : WData → WData → Option WData := hI fun i j => some (.bool (decide (j ≤ i)))
def hEq : WData → WData → Option WData := hI fun i j => some (.bool (decide (i = j)))
def hNe : WData → WData → Option WData := hI fun i j => some (.bool (!decide (i = j)))
def dNeg (f : DE) : DE := fun ρ => (f ρ).bind fun x => match x with
  | .int i => some (.int (-i))
  | _ => none
def intsOf : List WData → Option (List Int)
  | [] => some []
  | .int i :: r => (intsOf r).map (i :: ·)
  | _ => none
def hIn (neg : Bool) : WData → WData → Option WData
  | .int i, .tuple ds => (intsOf ds).map fun ns => .bool (if neg then !decide (i ∈ ns) else decide (i ∈ ns))
  | .int i, .list ds => (intsOf ds).map fun ns => .bool (if neg then !decide (i ∈ ns) else decide (i ∈ ns))
  | _, _ => none
def hIx : WData → WData → Option WData
  | .list ds, .int i => atI ds i
  | .tuple ds, .int i => atI ds i
  | _, _ => none
def dIxO (i : Nat) (f : DE) : DE := fun ρ => match ρ[i]? with
  | some (some (.own ds)) => (f ρ).bind fun j => hIx (.list ds) j
  | _ => none
def dTest (f : DE) : DT := fun ρ => match f ρ with
  | some (.bool b) => some b
  | _ => none
def dAnd (f g : DT) : DT := fun ρ => (f ρ).bind fun c => if c = true then g ρ else some false
def dOr (f g : DT) : DT := fun ρ => (f ρ).bind fun c => if c = true then some true else g ρ
def dNot (f : DT) : DT := fun ρ => (f ρ).map (!·)
def dAndV (f g : DE) : DE := fun ρ => (f ρ).bind fun x => match x with
  | .bool c => if c = true then g ρ else some (.bool false)
  | _ => none
def dOrV (f g : DE) : DE := fun ρ => (f ρ).bind fun x => match x with
  | .bool c => if c = true then some (.bool true) else g ρ
  | _ => none
def dNotV (f : DE) : DE := fun ρ => (f ρ).bind fun x => match x with
  | .bool c => some (.bool (!c))
  | _ => none
def dIf (c : DT) (f g : DE) : DE := fun ρ => (c ρ).bind fun b => if b = true then f ρ else g ρ
def dNil : DA := fun _ => some []
def dCons (f : DE) (g : DA) : DA := fun ρ => (f ρ).bind fun x => (g ρ).bind fun xs => some (x :: xs)
def dL (f : DA) : DE := fun ρ => (f ρ).map .list
def dTup (f : DA) : DE := fun ρ => (f ρ).map .tuple
def dCall (h : List WData → Option WData) (f : DA) : DE := fun ρ => (f ρ).bind h
def fLen : List WData → Option WData
  | [.list ds] => some (.int ds.length)
  | [.tuple ds] => some (.int ds.length)
  | _ => none
inductive Out where
  | nx (ρ : Rho)
  | rt (d : WData)
  | bk (ρ : Rho)
  | ct (ρ : Rho)
abbrev DS := Rho → Option Out
def sNil : DS := fun ρ => some (.nx ρ)
def sBreak : DS := fun ρ => some (.bk ρ)
def sCont : DS := fun ρ => some (.ct ρ)
def sSeq (f g : DS) : DS := fun ρ => match f ρ with
  | some (.nx ρ') => g ρ'
  | o => o
def sRet (f : DE) : DS := fun ρ => (f ρ).map .rt
def sRetN : DS := fun _ => some (.rt .none)
def sIf (c : DT) (f g : DS) : DS := fun ρ => (c ρ).bind fun b => if b = true then f ρ else g ρ
def sSet (i : Nat) (f : DE) : DS := fun ρ => (f ρ).map fun d => .nx (ρ.set i (some (.val d)))
def sOwn (i : Nat) (f : DA) : DS := fun ρ => (f ρ).map fun ds => .nx (ρ.set i (some (.own ds)))
def sPut (i : Nat) (fi f : DE) : DS := fun ρ => match ρ[i]? with
  | some (some (.own ds)) => (f ρ).bind fun d => (fi ρ).bind fun j => match j with
    | .int z => (ixN ds.length z).map fun m => .nx (ρ.set i (some (.own (ds.set m d))))
    | _ => none
  | _ => none
def sAug (i : Nat) (g : Int → Int → Int) (f : DE) : DS := fun ρ => match ρ[i]? with
  | some (some (.val (.int a))) => (f ρ).bind fun d => match d with
    | .int b => some (.nx (ρ.set i (some (.val (.int (g a b))))))
    | _ => none
  | _ => none
def loop (i : Nat) (f : DS) : List WData → DS
  | [], ρ => some (.nx ρ)
  | d :: ds, ρ => match f (ρ.set i (some (.val d))) with
    | some (.nx ρ') => loop i f ds ρ'
    | some (.ct ρ') => loop i f ds ρ'
    | some (.bk ρ') => some (.nx ρ')
    | some (.rt v) => some (.rt v)
    | none => none
def sFor (i : Nat) (fl : DE) (f : DS) : DS := fun ρ => match fl ρ with
  | some (.list ds) => loop i f ds ρ
  | _ => none
def sForT (i : Nat) (fl : DE) (f : DS) : DS := fun ρ => match fl ρ with
  | some (.tuple ds) => loop i f ds ρ
  | _ => none
def rng (lo : Int) (n : Nat) : List WData := (List.range n).map fun k => .int (lo + (k : Nat))
def c62 (j : Int) : Bool := yes (-(2 ^ 62) ≤ j ∧ j < 2 ^ 62)
def sForR (i : Nat) (fa : DA) (f : DS) : DS := fun ρ => match fa ρ with
  | some [.int j] => if c62 j = true then loop i f (rng 0 j.toNat) ρ else none
  | some [.int l, .int j] => if (c62 l && c62 j) = true then loop i f (rng l (j - l).toNat) ρ else none
  | _ => none
def lcGo (i : Nat) (ρ : Rho) (c : DT) (f : DE) : List WData → Option (List WData)
  | [] => some []
  | d :: ds => (c (ρ.set i (some (.val d)))).bind fun b => if b = true then (f (ρ.set i (some (.val d)))).bind fun y => (lcGo i ρ c f ds).map (y :: ·) else lcGo i ρ c f ds
def dLc (i : Nat) (vs : List Nat) (fl : DE) (c : DT) (f : DE) : DA := fun ρ => match fl ρ with
  | some (.list ds) => if yes (ds.length < 16777216) = true then lcGo i (wipeR ρ vs) c f ds else none
  | _ => none
def dYes : DT := fun _ => some true
def dLcR (i : Nat) (vs : List Nat) (fa : DA) (c : DT) (f : DE) : DA := fun ρ => match fa ρ with
  | some [.int j] => if (c62 j && yes (j < 16777216)) = true then lcGo i (wipeR ρ vs) c f (rng 0 j.toNat) else none
  | some [.int l, .int j] => if (c62 l && (c62 j && yes (j - l < 16777216))) = true then lcGo i (wipeR ρ vs) c f (rng l (j - l).toNat) else none
  | _ => none
def dCat (f g : DE) : DA := fun ρ => (f ρ).bind fun x => (g ρ).bind fun y => match x, y with
  | .list a, .list b => if yes (a.length + b.length ≤ 16777216) = true then some (a ++ b) else none
  | _, _ => none
def initR (N : Nat) (ds : List WData) : Rho := ds.map (fun d => some (.val d)) ++ List.replicate (N - ds.length) none
def body (N : Nat) (f : DS) : List WData → Option WData := fun ds => match f (initR N ds) with
  | some (.rt d) => some d
  | some (.nx _) => some .none
  | _ => none
theorem intsOf_ints : ∀ ns : List Int, intsOf (ns.map .int) = some ns
  | [] => rfl
  | n :: r => by
    show (intsOf (r.map .int)).map (n :: ·) = _
    rw [intsOf_ints r]
    rfl
theorem cMul_l {i j : Int} (h1 : -18446744073709551616 < i) (h2 : i < 18446744073709551616) : cMul i j = true := by
  unfold cMul
  exact yes_of (.inl ⟨h1, h2⟩)
theorem cMul_r {i j : Int} (h1 : -18446744073709551616 < j) (h2 : j < 18446744073709551616) : cMul i j = true := by
  unfold cMul
  exact yes_of (.inr ⟨h1, h2⟩)
theorem cDiv_p {i j : Int} (h : 0 < j) (h2 : j < 1073741824) : cDiv i j = true := yes_of ⟨h, h2⟩
theorem c62_of {j : Int} (h : -4611686018427387904 ≤ j) (h2 : j < 4611686018427387904) : c62 j = true := yes_of ⟨h, h2⟩
theorem hAdd_ii (i j : Int) : hAdd (.int i) (.int j) = some (.int (i + j)) := by unfold hAdd hI; rfl
theorem hSub_ii (i j : Int) : hSub (.int i) (.int j) = some (.int (i - j)) := by unfold hSub hI; rfl
theorem hMul_ii {i j : Int} (h : cMul i j = true) : hMul (.int i) (.int j) = some (.int (i * j)) := by
  show (if cMul i j = true then some (WData.int (i * j)) else none) = _
  rw [if_pos h]
theorem hMod_ii {i j : Int} (h : 0 < j) : hMod (.int i) (.int j) = some (.int (i % j)) := by
  show (if cMod i j = true then some (WData.int (i % j)) else none) = _
  rw [if_pos (show cMod i j = true from yes_of h)]
theorem hDiv_ii {i j : Int} (h : 0 < j) (h2 : j < 1073741824) : hDiv (.int i) (.int j) = some (.int (i / j)) := by
  show (if cDiv i j = true then some (WData.int (i / j)) else none) = _
  rw [if_pos (cDiv_p h h2)]
theorem hLt_ii (i j : Int) : hLt (.int i) (.int j) = some (.bool (decide (i < j))) := by unfold hLt hI; rfl
theorem hLe_ii (i j : Int) : hLe (.int i) (.int j) = some (.bool (decide (i ≤ j))) := by unfold hLe hI; rfl
theorem hGt_ii (i j : Int) : hGt (.int i) (.int j) = some (.bool (decide (j < i))) := by unfold hGt hI; rfl
theorem hGe_ii (i j : Int) : hGe (.int i) (.int j) = some (.bool (decide (j ≤ i))) := by unfold hGe hI; rfl
theorem hEq_ii (i j : Int) : hEq (.int i) (.int j) = some (.bool (decide (i = j))) := by unfold hEq hI; rfl
theorem hNe_ii (i j : Int) : hNe (.int i) (.int j) = some (.bool (!decide (i = j))) := by unfold hNe hI; rfl
theorem hIx_l (ds : List WData) (i : Int) : hIx (.list ds) (.int i) = atI ds i := by unfold hIx; rfl
theorem hIx_t (ds : List WData) (i : Int) : hIx (.tuple ds) (.int i) = atI ds i := by unfold hIx; rfl
theorem at_ints {ns : List Int} {i : Nat} {n : Int} (h : ns[i]? = some n) : atI (ns.map WData.int) (i : Int) = some (.int n) := by
  unfold atI ixN
  have hi : i < ns.length := (List.getElem?_eq_some_iff.mp h).1
  rw [if_pos (by omega), if_pos (by rw [List.length_map]; omega)]
  simp [h]
theorem atc_0 (a : WData) (l : List WData) : atI (a :: l) 0 = some a := by
  unfold atI ixN
  rw [if_pos (by omega), if_pos (by simp)]
  simp
theorem atc_s {a : WData} {l : List WData} {i j : Int} (h : 0 ≤ j) (e : i = j + 1) : atI (a :: l) i = atI l j := by
  unfold atI ixN
  subst e
  rw [if_pos (by omega), if_pos h]
  by_cases h2 : j < l.length
  · rw [if_pos (by rw [List.length_cons]; omega), if_pos h2]
    have : (j + 1).toNat = j.toNat + 1 := by omega
    rw [Option.bind_some, Option.bind_some, this, List.getElem?_cons_succ]
  · rw [if_neg (by rw [List.length_cons]; omega), if_neg h2]
    rfl
theorem atc_1 (a b : WData) (l : List WData) : atI (a :: b :: l) 1 = some b := by rw [atc_s (j := 0) (by omega) (by omega), atc_0]
theorem atc_2 (a b d : WData) (l : List WData) : atI (a :: b :: d :: l) 2 = some d := by rw [atc_s (j := 1) (by omega) (by omega), atc_1]
theorem atc_3 (a b d e : WData) (l : List WData) : atI (a :: b :: d :: e :: l) 3 = some e := by rw [atc_s (j := 2) (by omega) (by omega), atc_2]
theorem atc_4 (a b d e f : WData) (l : List WData) : atI (a :: b :: d :: e :: f :: l) 4 = some f := by rw [atc_s (j := 3) (by omega) (by omega), atc_3]
theorem atc_5 (a b d e f g : WData) (l : List WData) : atI (a :: b :: d :: e :: f :: g :: l) 5 = some g := by rw [atc_s (j := 4) (by omega) (by omega), atc_4]
theorem atc_6 (a b d e f g h : WData) (l : List WData) : atI (a :: b :: d :: e :: f :: g :: h :: l) 6 = some h := by rw [atc_s (j := 5) (by omega) (by omega), atc_5]
theorem atc_7 (a b d e f g h i : WData) (l : List WData) : atI (a :: b :: d :: e :: f :: g :: h :: i :: l) 7 = some i := by rw [atc_s (j := 6) (by omega) (by omega), atc_6]
theorem atc_8 (a b d e f g h i j : WData) (l : List WData) : atI (a :: b :: d :: e :: f :: g :: h :: i :: j :: l) 8 = some j := by rw [atc_s (j := 7) (by omega) (by omega), atc_7]
theorem hInT (neg : Bool) (i : Int) (ns : List Int) : hIn neg (.int i) (.tuple (ns.map .int)) = some (.bool (if neg then !decide (i ∈ ns) else decide (i ∈ ns))) := by
  show (intsOf (ns.map .int)).map _ = _
  rw [intsOf_ints]; rfl
theorem hInL (neg : Bool) (i : Int) (ns : List Int) : hIn neg (.int i) (.list (ns.map .int)) = some (.bool (if neg then !decide (i ∈ ns) else decide (i ∈ ns))) := by
  show (intsOf (ns.map .int)).map _ = _
  rw [intsOf_ints]; rfl
def cat2 (x y : WData) : Option (List WData) := match x, y with
  | .list a, .list b => if yes (a.length + b.length ≤ 16777216) = true then some (a ++ b) else none
  | _, _ => none
theorem dCat_eq (f g : DE) (ρ : Rho) : dCat f g ρ = (f ρ).bind fun x => (g ρ).bind fun y => cat2 x y := rfl
theorem cat2_ll {a b : List WData} (h : a.length + b.length ≤ 16777216) : cat2 (.list a) (.list b) = some (a ++ b) := if_pos (yes_of h)
def lcL (i : Nat) (ρ : Rho) (c : DT) (f : DE) (x : WData) : Option (List WData) := match x with
  | .list ds => if yes (ds.length < 16777216) = true then lcGo i ρ c f ds else none
  | _ => none
theorem lcL_l {i : Nat} {ρ : Rho} {c : DT} {f : DE} {ds : List WData} (h : ds.length < 16777216) : lcL i ρ c f (.list ds) = lcGo i ρ c f ds := if_pos (yes_of h)
theorem dLc_eq (i : Nat) (vs : List Nat) (fl : DE) (c : DT) (f : DE) (ρ : Rho) : dLc i vs fl c f ρ = (fl ρ).bind (lcL i (wipeR ρ vs) c f) := by
  unfold dLc
  cases fl ρ with
  | none => rfl
  | some x => cases x <;> rfl
def rgs : List WData → Option (List WData)
  | [.int j] => if c62 j = true then some (rng 0 j.toNat) else none
  | [.int l, .int j] => if (c62 l && c62 j) = true then some (rng l (j - l).toNat) else none
  | _ => none
theorem rgs_1 {j : Int} (h0 : -4611686018427387904 ≤ j) (h : j < 4611686018427387904) : rgs [.int j] = some (rng 0 j.toNat) := if_pos (c62_of h0 h)
theorem sForR_eq (i : Nat) (fa : DA) (f : DS) (ρ : Rho) : sForR i fa f ρ = ((fa ρ).bind rgs).bind fun l => loop i f l ρ := by
  unfold sForR
  split
  · rename_i j e
    rw [e]
    show _ = (if c62 j = true then some (rng 0 j.toNat) else none).bind _
    split <;> rfl
  · rename_i l j e
    rw [e]
    show _ = (if (c62 l && c62 j) = true then some (rng l (j - l).toNat) else none).bind _
    split <;> rfl
  · rename_i h1 h2
    cases e : fa ρ with
    | none => rfl
    | some ds =>
      rw [Option.bind_some]
      unfold rgs
      split
      · rename_i j
        exact (h1 j e).elim
      · rename_i l j
        exact (h2 l j e).elim
      · rfl
end Dn
end
end
section
set_option Elab.async false
set_option linter.all false
set_option maxRecDepth 100000
set_option maxHeartbeats 1000000
namespace Dn
open PySem PySem.Spec L2
open PySem.W (WData Codec)
def off (P : List Addr) (H : Hp) : Hp := fun b => if b ∈ P then none else H b
theorem off_in {P : List Addr} {H : Hp} {b : Addr} {o : HO} : off P H b = some o ↔ b ∉ P ∧ H b = some o := by
  unfold off
  by_cases h : b ∈ P <;> simp [h]
theorem off_same {P : List Addr} {H H' : Hp} (s : Same H H') : Same (off P H) (off P H') := fun b o e => by
  rw [off_in] at *
  exact ⟨e.1, s b o e.2⟩
theorem off_sub {P : List Addr} {H : Hp} : Same (off P H) H := fun b o e => (off_in.mp e).2
theorem off_mono {P P' : List Addr} {H : Hp} (h : ∀ p ∈ P, p ∈ P') : Same (off P' H) (off P H) := fun b o e => by
  rw [off_in] at *
  exact ⟨fun q => e.1 (h b q), e.2⟩
theorem off_nil {H : Hp} : off [] H = H := by
  funext b
  simp [off]
theorem sm_refl (H : Hp) : Same H H := fun _ _ h => h
theorem rd_same {H H' : Hp} {a : Addr} {u : HO} (s : Same H H') (h : Rd H a u) : Rd H' a u := by
  rcases h with h | ⟨o, h⟩
  · exact .inl (s _ _ h)
  · exact .inr ⟨o, s _ _ h⟩
theorem sqL_same {K : PySem.W.Frag} {H H' : Hp} {a : Addr} {xs : List V} (s : Same H H') (h : SqL K H a xs) : SqL K H' a xs := by
  rcases h with h | h
  · exact .inl (rd_same s h)
  · exact .inr h
theorem sqT_same {K : PySem.W.Frag} {H H' : Hp} {a : Addr} {xs : List V} (s : Same H H') (h : SqT K H a xs) : SqT K H' a xs := by
  rcases h with h | h
  · exact .inl (rd_same s h)
  · exact .inr h
mutual
theorem dw_same {K : PySem.W.Frag} {H H' : Hp} (s : Same H H') : ∀ {v : V} {d : WData}, Dw K H v d → Dw K H' v d
  | _, _, .non => .non
  | _, _, .bl b => .bl b
  | _, _, .int i => .int i
  | _, _, .str x => .str x
  | _, _, .byt b => .byt b
  | _, _, .lst h a => .lst (sqL_same s h) (dwa_same s a)
  | _, _, .tup h a => .tup (sqT_same s h) (dwa_same s a)
theorem dwa_same {K : PySem.W.Frag} {H H' : Hp} (s : Same H H') : ∀ {vs : List V} {ds : List WData}, DwAll K H vs ds → DwAll K H' vs ds
  | _, _, .nil => .nil
  | _, _, .cons h a => .cons (dw_same s h) (dwa_same s a)
end
theorem dwa_len {K : PySem.W.Frag} {H : Hp} : ∀ {vs : List V} {ds : List WData}, DwAll K H vs ds → vs.length = ds.length
  | _, _, .nil => rfl
  | _, _, .cons h a => by simp [dwa_len a]
theorem dwa_get {K : PySem.W.Frag} {H : Hp} : ∀ {vs : List V} {ds : List WData} (i : Nat) {d : WData}, DwAll K H vs ds → ds[i]? = some d → ∃ v, vs[i]? = some v ∧ Dw K H v d
  | _, _, _, _, .nil, e => by simp at e
  | _, _, 0, d, .cons (v := v) h a, e => by
    simp at e
    subst e
    exact ⟨v, rfl, h⟩
  | _, _, i + 1, d, .cons h a, e => by
    simp at e ⊢
    exact dwa_get i a e
theorem dwa_app {K : PySem.W.Frag} {H : Hp} : ∀ {vs : List V} {ds : List WData} {us : List V} {es : List WData}, DwAll K H vs ds → DwAll K H us es → DwAll K H (vs ++ us) (ds ++ es)
  | _, _, _, _, .nil, b => b
  | _, _, _, _, .cons h a, b => .cons h (dwa_app a b)
theorem dw_int {K : PySem.W.Frag} {H : Hp} {v : V} {i : Int} (h : Dw K H v (.int i)) : v = .int i := by
  cases h
  rfl
theorem dw_bl {K : PySem.W.Frag} {H : Hp} {v : V} {i : Bool} (h : Dw K H v (.bool i)) : v = .bl i := by
  cases h
  rfl
theorem dw_lst {K : PySem.W.Frag} {H : Hp} {v : V} {ds : List WData} (h : Dw K H v (.list ds)) : ∃ a xs, v = .ref a ∧ SqL K H a xs ∧ DwAll K H xs ds := by
  cases h with
  | lst h a => exact ⟨_, _, rfl, h, a⟩
theorem dw_tup {K : PySem.W.Frag} {H : Hp} {v : V} {ds : List WData} (h : Dw K H v (.tuple ds)) : ∃ a xs, v = .ref a ∧ SqT K H a xs ∧ DwAll K H xs ds := by
  cases h with
  | tup h a => exact ⟨_, _, rfl, h, a⟩
theorem upd_new {H H1 : Hp} {p : Addr} {o : HO} (s : Same H H1) (h : H1 p = none) : Same H (upd H1 p o) := fun b u e => by
  rw [upd_ne (ne_of_none (s b u e) h)]
  exact s b u e
theorem off_new {P : List Addr} {H : Hp} {p : Addr} {o : HO} (h : H p = none) : Same (off P H) (off (p :: P) (upd H p o)) := fun b u e => by
  rw [off_in] at *
  have hb := ne_of_none e.2 h
  refine ⟨fun q => ?_, by rw [upd_ne hb]; exact e.2⟩
  rcases List.mem_cons.mp q with q | q
  · exact hb q
  · exact e.1 q
theorem off_upd {P : List Addr} {H : Hp} {p : Addr} {o : HO} (h : p ∈ P) : off P (upd H p o) = off P H := by
  funext b
  unfold off
  by_cases q : b ∈ P
  · simp [q]
  · simp [q]
    exact upd_ne fun z => q (z ▸ h)
structure RelP (K : PySem.W.Frag) (H0 : Hp) (P0 P : List Addr) (H : Hp) (σ : St) (ρ : Rho) : Prop where
  sub : ∀ p ∈ P0, p ∈ P
  al : ∀ p ∈ P, H p ≠ none
  new : ∀ p ∈ P, p ∈ P0 ∨ H0 p = none
  sm : Same H0 H
  val : ∀ (i : Nat) (d : WData), ρ[i]? = some (some (Sl.val d)) → ∃ v, σ[i]? = some (some v) ∧ Dw K (off P H) v d
  own : ∀ (i : Nat) (ds : List WData), ρ[i]? = some (some (Sl.own ds)) → ∃ p xs, σ[i]? = some (some (.ref p)) ∧ p ∈ P ∧ p ∉ P0 ∧ H p = some (.lst xs) ∧ DwAll K (off P H) xs ds
  dis : ∀ (i j : Nat) (ds es : List WData) (p : Addr), ρ[i]? = some (some (Sl.own ds)) → ρ[j]? = some (some (Sl.own es)) → σ[i]? = some (some (.ref p)) → σ[j]? = some (some (.ref p)) → i = j
  len : σ.length = ρ.length
def Rel (K : PySem.W.Frag) (H0 : Hp) (P0 : List Addr) (H : Hp) (σ : St) (ρ : Rho) : Prop := ∃ P, RelP K H0 P0 P H σ ρ
section
variable {K : PySem.W.Frag} {H0 : Hp} {P0 P : List Addr} {H H' : Hp} {σ : St} {ρ : Rho}
theorem al_same (h : ∀ p ∈ P, H p ≠ none) (s : Same H H') : ∀ p ∈ P, H' p ≠ none := fun p hp z => by
  cases e : H p with
  | none => exact h p hp e
  | some o =>
    rw [s p o e] at z
    cases z
theorem RelP.same (R : RelP K H0 P0 P H σ ρ) (s : Same H H') : RelP K H0 P0 P H' σ ρ where
  sub := R.sub
  al := al_same R.al s
  new := R.new
  sm := R.sm.trans s
  val := fun i d e => let ⟨v, a, b⟩ := R.val i d e; ⟨v, a, dw_same (off_same s) b⟩
  own := fun i ds e => let ⟨p, xs, a, b, c, d, f⟩ := R.own i ds e; ⟨p, xs, a, b, c, s _ _ d, dwa_same (off_same s) f⟩
  dis := R.dis
  len := R.len
theorem fresh_P (al : ∀ p ∈ P, H p ≠ none) {p : Addr} (h : H p = none) : p ∉ P := fun q => al p q h
theorem RelP.setVal (R : RelP K H0 P0 P H σ ρ) (i : Nat) {v : V} {d : WData} (h : Dw K (off P H) v d) : RelP K H0 P0 P H (σ.set i (some v)) (ρ.set i (some (.val d))) where
  sub := R.sub
  al := R.al
  new := R.new
  sm := R.sm
  val := fun j e q => by
    by_cases hj : i = j
    · subst hj
      have hl : i < ρ.length := by
        have := (List.getElem?_eq_some_iff.mp q).1
        simpa using this
      rw [List.getElem?_set_self hl] at q
      cases q
      exact ⟨v, List.getElem?_set_self (by rw [R.len]; exact hl), h⟩
    · rw [List.getElem?_set_ne hj] at q ⊢
      exact R.val j e q
  own := fun j ds q => by
    by_cases hj : i = j
    · subst hj
      have hl : i < ρ.length := by
        have := (List.getElem?_eq_some_iff.mp q).1
        simpa using this
      rw [List.getElem?_set_self hl] at q
      cases q
    · rw [List.getElem?_set_ne hj] at q ⊢
      exact R.own j ds q
  dis := fun j k ds es p q1 q2 e1 e2 => by
    have a : ∀ {j : Nat} {ds : List WData}, (ρ.set i (some (Sl.val d)))[j]? = some (some (Sl.own ds)) → i ≠ j := fun {j ds} q hj => by
      subst hj
      have hl : i < ρ.length := by
        have := (List.getElem?_eq_some_iff.mp q).1
        simpa using this
      rw [List.getElem?_set_self hl] at q
      cases q
    have a1 := a q1
    have a2 := a q2
    rw [List.getElem?_set_ne a1] at q1 e1
    rw [List.getElem?_set_ne a2] at q2 e2
    exact R.dis j k ds es p q1 q2 e1 e2
  len := by simp [R.len]
theorem RelP.wipe1 (R : RelP K H0 P0 P H σ ρ) (i : Nat) : RelP K H0 P0 P H (σ.set i none) (ρ.set i none) := by
  have at_i : ∀ {j : Nat} {z : Sl}, (ρ.set i none)[j]? = some (some z) → i ≠ j ∧ ρ[j]? = some (some z) := fun {j z} q => by
    by_cases hj : i = j
    · subst hj
      have hl : i < ρ.length := by
        have := (List.getElem?_eq_some_iff.mp q).1
        simpa using this
      rw [List.getElem?_set_self hl] at q
      cases q
    · rw [List.getElem?_set_ne hj] at q
      exact ⟨hj, q⟩
  refine ⟨R.sub, R.al, R.new, R.sm, ?_, ?_, ?_, by simp [R.len]⟩
  · intro j d q
    obtain ⟨hj, q⟩ := at_i q
    rw [List.getElem?_set_ne hj]
    exact R.val j d q
  · intro j d q
    obtain ⟨hj, q⟩ := at_i q
    rw [List.getElem?_set_ne hj]
    exact R.own j d q
  · intro j k as bs r q1 q2 e1 e2
    obtain ⟨h1, q1⟩ := at_i q1
    obtain ⟨h2, q2⟩ := at_i q2
    rw [List.getElem?_set_ne h1] at e1
    rw [List.getElem?_set_ne h2] at e2
    exact R.dis j k as bs r q1 q2 e1 e2
theorem RelP.wipe (R : RelP K H0 P0 P H σ ρ) : ∀ vs : List Nat, RelP K H0 P0 P H (L2.wipe σ vs) (wipeR ρ vs)
  | [] => R
  | v :: vs => (R.wipe vs).wipe1 v
theorem RelP.freeze (R : RelP K H0 P0 P H σ ρ) (i : Nat) : Rel K H0 P0 H σ (freeze i ρ) := by
  unfold Dn.freeze
  split
  · rename_i ds hi
    obtain ⟨p, xs, hs, hp, hp0, hx, ha⟩ := R.own i ds hi
    have hl : i < ρ.length := (List.getElem?_eq_some_iff.mp hi).1
    have m : ∀ {q : Addr}, q ∈ P.filter (fun q => decide (q ≠ p)) ↔ q ∈ P ∧ q ≠ p := by
      intro q
      simp
    have mo : Same (off P H) (off (P.filter (fun q => decide (q ≠ p))) H) := off_mono fun q hq => (m.mp hq).1
    have at_i : ∀ {j : Nat} {z : Sl}, (ρ.set i (some (Sl.val (.list ds))))[j]? = some (some z) → (i = j ∧ z = .val (.list ds)) ∨ (i ≠ j ∧ ρ[j]? = some (some z)) := fun {j z} q => by
      by_cases hj : i = j
      · subst hj
        rw [List.getElem?_set_self hl] at q
        cases q
        exact .inl ⟨rfl, rfl⟩
      · rw [List.getElem?_set_ne hj] at q
        exact .inr ⟨hj, q⟩
    refine ⟨P.filter (fun q => decide (q ≠ p)), fun q hq => m.mpr ⟨R.sub q hq, fun z => hp0 (z ▸ hq)⟩, fun q hq => R.al q (m.mp hq).1, fun q hq => R.new q (m.mp hq).1, R.sm, ?_, ?_, ?_, by simp [R.len]⟩
    · intro j d q
      rcases at_i q with ⟨z, z2⟩ | ⟨hj, q⟩
      · subst z
        cases z2
        exact ⟨_, hs, .lst (SqL.of (off_in.mpr ⟨fun z => (m.mp z).2 rfl, hx⟩)) (dwa_same mo ha)⟩
      · obtain ⟨v, a, b⟩ := R.val j d q
        exact ⟨v, a, dw_same mo b⟩
    · intro j es q
      rcases at_i q with ⟨z, z2⟩ | ⟨hj, q⟩
      · cases z2
      · obtain ⟨r, zs, a, b, c, d, f⟩ := R.own j es q
        refine ⟨r, zs, a, m.mpr ⟨b, fun z => ?_⟩, c, d, dwa_same mo f⟩
        subst z
        exact hj (R.dis i j _ _ _ hi q hs a)
    · intro j k as bs r q1 q2 e1 e2
      rcases at_i q1 with ⟨_, z⟩ | ⟨_, q1⟩
      · cases z
      rcases at_i q2 with ⟨_, z⟩ | ⟨_, q2⟩
      · cases z
      exact R.dis j k as bs r q1 q2 e1 e2
  · exact ⟨P, R⟩
def here (P0 P : List Addr) (H : Hp) : Hp := fun b => if b ∈ P ∧ b ∉ P0 then none else H b
theorem here_in {P0 P : List Addr} {H : Hp} {b : Addr} {o : HO} : here P0 P H b = some o ↔ ¬ (b ∈ P ∧ b ∉ P0) ∧ H b = some o := by
  unfold here
  split
  · rename_i h
    simp [h]
  · rename_i h
    exact ⟨fun e => ⟨h, e⟩, fun e => e.2⟩
theorem RelP.here (R : RelP K H0 P0 P H σ ρ) : RelP K (here P0 P H) P0 P H σ ρ := ⟨R.sub, R.al, fun p hp => by
    by_cases q : p ∈ P0
    · exact .inl q
    · refine .inr ?_
      unfold Dn.here
      rw [if_pos ⟨hp, q⟩], fun b o e => (here_in.mp e).2, R.val, R.own, R.dis, R.len⟩
theorem RelP.hereSame (R : RelP K H0 P0 P H σ ρ) : Same H0 (Dn.here P0 P H) := fun b o e => by
  refine here_in.mpr ⟨fun h => ?_, R.sm b o e⟩
  rcases R.new b h.1 with z | z
  · exact h.2 z
  · rw [z] at e
    cases e
theorem Rel.back {H1 : Hp} (s : Same H0 H1) (R : Rel K H1 P0 H σ ρ) : Rel K H0 P0 H σ ρ := by
  obtain ⟨P, R⟩ := R
  exact ⟨P, R.sub, R.al, fun p hp => (R.new p hp).imp id fun z => s.free z, s.trans R.sm, R.val, R.own, R.dis, R.len⟩
theorem RelP.keep (R : RelP K H0 P0 P H σ ρ) : Same (off P0 H0) (off P H) := fun b o e => by
  rw [off_in] at *
  refine ⟨fun q => ?_, R.sm b o e.2⟩
  rcases R.new b q with z | z
  · exact e.1 z
  · rw [z] at e
    cases e.2
theorem off_here {P0 P : List Addr} {H : Hp} (h : ∀ p ∈ P0, p ∈ P) : Same (off P H) (off P0 (Dn.here P0 P H)) := fun b o e => by
  rw [off_in] at *
  exact ⟨fun q => e.1 (h b q), here_in.mpr ⟨fun z => e.1 z.1, e.2⟩⟩
end
end Dn
end
section
set_option Elab.async false
set_option linter.all false
set_option maxRecDepth 100000
set_option maxHeartbeats 1000000
namespace Dn
open PySem PySem.Spec L2
open PySem.W (WData Codec)
def RE (K : PySem.W.Frag) (te : TE) (f : DE) : Prop := ∀ (H0 : Hp) (P0 P : List Addr) (H : Hp) (σ : St) (ρ : Rho) (d : WData) (Q : VK), RelP K H0 P0 P H σ ρ → f ρ = some d → (∀ v H', Same H H' → Dw K (off P H') v d → Q v H') → te σ H Q
def RT (K : PySem.W.Frag) (tt : TT) (f : DT) : Prop := ∀ (H0 : Hp) (P0 P : List Addr) (H : Hp) (σ : St) (ρ : Rho) (d : Bool) (Q : Bool → Hp → Prop), RelP K H0 P0 P H σ ρ → f ρ = some d → (∀ H', Same H H' → Q d H') → tt σ H Q
def RA (K : PySem.W.Frag) (n : Nat) (ta : TA) (f : DA) : Prop := ∀ (H0 : Hp) (P0 P : List Addr) (H : Hp) (σ : St) (ρ : Rho) (d : List WData) (Q : List V → Hp → Prop), RelP K H0 P0 P H σ ρ → f ρ = some d → (∀ vs H', Same H H' → DwAll K (off P H') vs d → vs.length = n → Q vs H') → ta σ H Q
def RF (K : PySem.W.Frag) (te : TE) (f : DA) : Prop := ∀ (H0 : Hp) (P0 P : List Addr) (H : Hp) (σ : St) (ρ : Rho) (ds : List WData) (Q : VK), RelP K H0 P0 P H σ ρ → f ρ = some ds →
  (∀ p xs H', H p = none → Same H H' → H' p = some (.lst xs) → DwAll K (off (p :: P) H') xs ds → Q (.ref p) H') → te σ H Q
def RO (K : PySem.W.Frag) (r : R2) (h : WData → WData → Option WData) : Prop := ∀ (P : List Addr) (H : Hp) (x y : V) (dx dy d : WData) (Q : VK), (∀ p ∈ P, H p ≠ none) → Dw K (off P H) x dx → Dw K (off P H) y dy → h dx dy = some d →
  (∀ v H', Same H H' → Dw K (off P H') v d → Q v H') → r x y H Q
def RC (K : PySem.W.Frag) (r : List V → Hp → VK → Prop) (h : List WData → Option WData) : Prop := ∀ (P : List Addr) (H : Hp) (xs : List V) (ds : List WData) (d : WData) (Q : VK), (∀ p ∈ P, H p ≠ none) → DwAll K (off P H) xs ds → h ds = some d →
  (∀ v H', Same H H' → Dw K (off P H') v d → Q v H') → r xs H Q
section
variable {K : PySem.W.Frag}
theorem re_var (i : Nat) : RE K (tVar i) (dVar i) := by
  intro H0 P0 P H σ ρ d Q R h k
  unfold dVar at h
  split at h
  · rename_i d' e
    cases h
    obtain ⟨v, e1, e2⟩ := R.val i d e
    exact ⟨v, e1, k v H (sm_refl H) e2⟩
  · cases h
theorem re_c {v : V} {d : WData} (h : ∀ H, Dw K H v d) : RE K (tC v) (dC d) := by
  intro H0 P0 P H σ ρ d' Q R e k
  cases e
  exact k v H (sm_refl H) (h _)
theorem re_int (i : Int) : RE K (tC (.int i)) (dC (.int i)) := re_c fun _ => .int i
theorem re_op {r : R2} {ta tb : TE} {h : WData → WData → Option WData} {f g : DE} (hr : RO K r h) (ha : RE K ta f) (hb : RE K tb g) : RE K (tOp r ta tb) (dOp h f g) := by
  intro H0 P0 P H σ ρ d Q R e k
  unfold dOp at e
  obtain ⟨x, e1, e⟩ := Option.bind_eq_some_iff.mp e
  obtain ⟨y, e2, e⟩ := Option.bind_eq_some_iff.mp e
  refine ha _ _ _ _ _ _ _ _ R e1 fun v H1 s1 d1 => ?_
  refine hb _ _ _ _ _ _ _ _ (R.same s1) e2 fun w H2 s2 d2 => ?_
  exact hr P H2 v w x y d Q (al_same R.al (s1.trans s2)) (dw_same (off_same s2) d1) d2 e fun z H3 s3 d3 => k z H3 ((s1.trans s2).trans s3) d3
theorem hI_some {g : Int → Int → Option WData} {x y d : WData} (h : hI g x y = some d) : ∃ i j, x = .int i ∧ y = .int j ∧ g i j = some d := by
  unfold hI at h
  split at h
  · exact ⟨_, _, rfl, rfl, h⟩
  · cases h
theorem ro_0 {g : Int → Int → V} {g' : Int → Int → WData} (hg : ∀ i j H, Dw K H (g i j) (g' i j)) : RO K (rI0 g) (hI fun i j => some (g' i j)) := by
  intro P H x y dx dy d Q al d1 d2 e k
  obtain ⟨i, j, rfl, rfl, e⟩ := hI_some e
  cases e
  exact ⟨i, j, dw_int d1, dw_int d2, k _ H (sm_refl H) (hg _ _ _)⟩
theorem ro_c {C : Int → Int → Prop} {D : Int → Int → Bool} (hC : ∀ i j, D i j = true → C i j) {g : Int → Int → V} {g' : Int → Int → WData} (hg : ∀ i j H, Dw K H (g i j) (g' i j)) : RO K (rI C g) (hI fun i j => if D i j = true then some (g' i j) else none) := by
  intro P H x y dx dy d Q al d1 d2 e k
  obtain ⟨i, j, rfl, rfl, e'⟩ := hI_some e
  split at e'
  · rename_i c
    cases e'
    exact ⟨i, j, dw_int d1, dw_int d2, hC i j c, k _ H (sm_refl H) (hg _ _ _)⟩
  · cases e'
theorem ro_add : RO K (rI0 fun i j => .int (i + j)) hAdd := ro_0 fun _ _ _ => .int _
theorem ro_sub : RO K (rI0 fun i j => .int (i - j)) hSub := ro_0 fun _ _ _ => .int _
theorem cMul_ok {i j : Int} (h : cMul i j = true) : CMul i j := by
  unfold cMul at h
  have q := of_yes h
  exact q
theorem cMod_ok {i j : Int} (h : cMod i j = true) : 0 < j := by
  unfold cMod at h
  exact of_yes h
theorem ro_mul : RO K (rI CMul fun i j => .int (i * j)) hMul := ro_c (fun _ _ h => cMul_ok h) fun _ _ _ => .int _
theorem ro_mod : RO K (rI (fun _ j => 0 < j) fun i j => .int (i % j)) hMod := ro_c (fun _ _ h => cMod_ok h) fun _ _ _ => .int _
theorem ro_gt : RO K (rI0 fun i j => .bl (decide (j < i))) hGt := ro_0 fun _ _ _ => .bl _
theorem ro_eq : RO K rEq hEq := by
  intro P H x y dx dy d Q al d1 d2 e k
  obtain ⟨i, j, rfl, rfl, e⟩ := hI_some e
  cases e
  rw [dw_int d1, dw_int d2]
  refine ⟨rfl, ?_⟩
  have z : decide (V.int i = V.int j) = decide (i = j) := by rw [dec_int]; exact Bool.beq_eq_decide_eq i j
  rw [z]
  exact k _ H (sm_refl H) (.bl _)
theorem ro_ne : RO K rNe hNe := by
  intro P H x y dx dy d Q al d1 d2 e k
  obtain ⟨i, j, rfl, rfl, e⟩ := hI_some e
  cases e
  rw [dw_int d1, dw_int d2]
  refine ⟨rfl, ?_⟩
  have z : decide (V.int i = V.int j) = decide (i = j) := by rw [dec_int]; exact Bool.beq_eq_decide_eq i j
  rw [z]
  exact k _ H (sm_refl H) (.bl _)
theorem re_neg {ta : TE} {f : DE} (ha : RE K ta f) : RE K (tUn (rU fun i => .int (-i)) ta) (dNeg f) := by
  intro H0 P0 P H σ ρ d Q R e k
  obtain ⟨x, e1, e⟩ := Option.bind_eq_some_iff.mp e
  split at e
  · rename_i i
    cases e
    exact ha _ _ _ _ _ _ _ _ R e1 fun v H1 s1 d1 => ⟨i, dw_int d1, k _ H1 s1 (.int _)⟩
  · cases e
theorem intsOf_map : ∀ {ds : List WData} {ns : List Int}, intsOf ds = some ns → ds = ns.map .int
  | [], ns, h => by cases h; rfl
  | .int i :: r, ns, h => by
    unfold intsOf at h
    obtain ⟨ms, h1, rfl⟩ := Option.map_eq_some_iff.mp h
    rw [intsOf_map h1]
    rfl
  | .none :: _, _, h => by cases h
  | .bool _ :: _, _, h => by cases h
  | .str _ :: _, _, h => by cases h
  | .list _ :: _, _, h => by cases h
  | .tuple _ :: _, _, h => by cases h
  | .dict _ :: _, _, h => by cases h
  | .float _ :: _, _, h => by cases h
  | .bytes _ :: _, _, h => by cases h
  | .bytearray _ :: _, _, h => by cases h
  | .set _ :: _, _, h => by cases h
  | .frozenset _ :: _, _, h => by cases h
  | .obj _ _ :: _, _, h => by cases h
theorem inV_ints (i : Int) : ∀ ns : List Int, inV (.int i) (ns.map V.int) = decide (i ∈ ns)
  | [] => by simp [inV]
  | n :: r => by
    have ih := inV_ints i r
    unfold inV at ih ⊢
    rw [List.map_cons, List.any_cons, ih]
    have e : eqV (.int n) (.int i) = decide (i = n) := by
      show (n == i) = decide (i = n)
      rw [Bool.beq_eq_decide_eq]
      exact decide_eq_decide.mpr ⟨Eq.symm, Eq.symm⟩
    rw [e]
    by_cases h : i = n <;> simp [h]
theorem flat_ints (ns : List Int) : (ns.map V.int).all flatV = true := by
  simp [List.all_eq_true, flatV]
theorem ro_in {neg : Bool} : RO K (rIn K neg) (hIn neg) := by
  intro P H x y dx dy d Q al d1 d2 e k
  unfold hIn at e
  split at e
  · rename_i i ds
    obtain ⟨ns, e1, rfl⟩ := Option.map_eq_some_iff.mp e
    obtain ⟨a, xs, rfl, sq, da⟩ := dw_tup d2
    rw [intsOf_map e1] at da
    have ex := ints_dw ns xs da
    subst ex
    rw [dw_int d1]
    refine ⟨a, _, rfl, .inr (sqT_same off_sub sq), rfl, flat_ints ns, ?_⟩
    rw [inV_ints]
    exact k _ H (sm_refl H) (.bl _)
  · rename_i i ds
    obtain ⟨ns, e1, rfl⟩ := Option.map_eq_some_iff.mp e
    obtain ⟨a, xs, rfl, sq, da⟩ := dw_lst d2
    rw [intsOf_map e1] at da
    have ex := ints_dw ns xs da
    subst ex
    rw [dw_int d1]
    refine ⟨a, _, rfl, .inl (sqL_same off_sub sq), rfl, flat_ints ns, ?_⟩
    rw [inV_ints]
    exact k _ H (sm_refl H) (.bl _)
  · cases e
theorem dwa_atI {H : Hp} {xs : List V} {ds : List WData} {i : Int} {d : WData} (a : DwAll K H xs ds) (e : atI ds i = some d) : ∃ v, atI xs i = some v ∧ Dw K H v d := by
  unfold atI at e ⊢
  rw [dwa_len a]
  obtain ⟨j, e1, e2⟩ := Option.bind_eq_some_iff.mp e
  obtain ⟨v, e3, dv⟩ := dwa_get j a e2
  exact ⟨v, by rw [e1]; exact e3, dv⟩
theorem ro_ix : RO K (rIx K) hIx := by
  intro P H x y dx dy d Q al d1 d2 e k
  unfold hIx at e
  split at e
  · rename_i ds i
    obtain ⟨a, xs, rfl, sq, da⟩ := dw_lst d1
    obtain ⟨v, e1, dv⟩ := dwa_atI da e
    exact .inl ⟨a, xs, i, v, rfl, dw_int d2, sqL_same off_sub sq, e1, k v H (sm_refl H) dv⟩
  · rename_i ds i
    obtain ⟨a, xs, rfl, sq, da⟩ := dw_tup d1
    obtain ⟨v, e1, dv⟩ := dwa_atI da e
    exact .inr (.inl ⟨a, xs, i, v, rfl, dw_int d2, sqT_same off_sub sq, e1, k v H (sm_refl H) dv⟩)
  · cases e
theorem rt_test {t : TE} {f : DE} (h : RE K t f) : RT K (tTest t) (dTest f) := by
  intro H0 P0 P H σ ρ d Q R e k
  unfold dTest at e
  split at e
  · rename_i b e1
    cases e
    exact h _ _ _ _ _ _ _ _ R e1 fun v H1 s1 d1 => ⟨d, dw_bl d1, k H1 s1⟩
  · cases e
theorem rt_b {t : TE} {f : DE} (h : RE K t f) : RT K (tB t) (dTest f) := rt_test h
theorem rt_and {t u : TT} {f g : DT} (h1 : RT K t f) (h2 : RT K u g) : RT K (tAnd t u) (dAnd f g) := by
  intro H0 P0 P H σ ρ d Q R e k
  obtain ⟨c, e1, e⟩ := Option.bind_eq_some_iff.mp e
  refine h1 _ _ _ _ _ _ _ _ R e1 fun H1 s1 => ?_
  split
  · rename_i hc
    rw [if_pos hc] at e
    exact h2 _ _ _ _ _ _ _ _ (R.same s1) e fun H2 s2 => k H2 (s1.trans s2)
  · rename_i hc
    rw [if_neg hc] at e
    cases e
    exact k H1 s1
theorem rt_not {t : TT} {f : DT} (h1 : RT K t f) : RT K (tNot t) (dNot f) := by
  intro H0 P0 P H σ ρ d Q R e k
  obtain ⟨c, e1, rfl⟩ := Option.map_eq_some_iff.mp e
  exact h1 _ _ _ _ _ _ _ _ R e1 fun H1 s1 => k H1 s1
theorem re_andV {t u : TE} {f g : DE} (h1 : RE K t f) (h2 : RE K u g) : RE K (tAndV t u) (dAndV f g) := by
  intro H0 P0 P H σ ρ d Q R e k
  obtain ⟨x, e1, e⟩ := Option.bind_eq_some_iff.mp e
  split at e
  · rename_i c
    refine h1 _ _ _ _ _ _ _ _ R e1 fun v H1 s1 d1 => ⟨c, dw_bl d1, ?_⟩
    split
    · rename_i hc
      rw [if_pos hc] at e
      exact h2 _ _ _ _ _ _ _ _ (R.same s1) e fun v H2 s2 d2 => k v H2 (s1.trans s2) d2
    · rename_i hc
      rw [if_neg hc] at e
      cases e
      exact k _ H1 s1 (.bl _)
  · cases e
theorem ra_nil : RA K 0 tNil dNil := by
  intro H0 P0 P H σ ρ d Q R e k
  cases e
  exact k [] H (sm_refl H) .nil rfl
theorem ra_cons {n : Nat} {ta : TE} {tr : TA} {f : DE} {g : DA} (ha : RE K ta f) (hr : RA K n tr g) : RA K (n + 1) (tCons ta tr) (dCons f g) := by
  intro H0 P0 P H σ ρ d Q R e k
  obtain ⟨x, e1, e⟩ := Option.bind_eq_some_iff.mp e
  obtain ⟨xs, e2, e⟩ := Option.bind_eq_some_iff.mp e
  cases e
  refine ha _ _ _ _ _ _ _ _ R e1 fun v H1 s1 d1 => ?_
  refine hr _ _ _ _ _ _ _ _ (R.same s1) e2 fun vs H2 s2 d2 hl => ?_
  exact k _ H2 (s1.trans s2) (.cons (dw_same (off_same s2) d1) d2) (by simp [hl])
theorem rf_lst {n : Nat} {t : TA} {f : DA} (h : RA K n t f) (hn : n ≤ 1000 := by decide) : RF K (tLst t) f := by
  intro H0 P0 P H σ ρ d Q R e k
  refine h _ _ _ _ _ _ _ _ R e fun vs H1 s1 d1 hl => ⟨by rw [sizeLine_eq, hl]; omega, fun p hp => ?_⟩
  exact k p vs _ (s1.free hp) (upd_new s1 hp) upd_same (dwa_same (off_new hp) d1)
theorem re_rf {t : TE} {f : DA} (h : RF K t f) : RE K t (dL f) := by
  intro H0 P0 P H σ ρ d Q R e k
  obtain ⟨ds, e1, rfl⟩ := Option.map_eq_some_iff.mp e
  refine h _ _ _ _ _ _ _ _ R e1 fun p xs H1 hn s1 hp da => ?_
  exact k _ H1 s1 (.lst (SqL.of (off_in.mpr ⟨fresh_P R.al hn, hp⟩)) (dwa_same (off_mono fun q hq => List.mem_cons_of_mem _ hq) da))
theorem re_cb {n : Nat} {r : List V → Hp → VK → Prop} {h : List WData → Option WData} {t : TA} {f : DA} (hr : RC K r h) (ha : RA K n t f) : RE K (tCB r t) (dCall h f) := by
  intro H0 P0 P H σ ρ d Q R e k
  obtain ⟨ds, e1, e⟩ := Option.bind_eq_some_iff.mp e
  refine ha _ _ _ _ _ _ _ _ R e1 fun vs H1 s1 d1 hl => ?_
  exact hr P H1 vs ds d Q (al_same R.al s1) d1 e fun v H2 s2 d2 => k v H2 (s1.trans s2) d2
theorem dwa_one {H : Hp} {xs : List V} {d : WData} (h : DwAll K H xs [d]) : ∃ x, xs = [x] ∧ Dw K H x d := by
  cases h with
  | cons a b =>
    cases b
    exact ⟨_, rfl, a⟩
theorem rc_len : RC K (fun xs H Q => ∃ p ys, xs = [.ref p] ∧ (SqL K H p ys ∨ SqT K H p ys) ∧ Q (.int ys.length) H) fLen := by
  intro P H xs ds d Q al da e k
  unfold fLen at e
  split at e
  · rename_i es
    cases e
    obtain ⟨x, rfl, dx⟩ := dwa_one da
    obtain ⟨a, ys, rfl, sq, dy⟩ := dw_lst dx
    refine ⟨a, ys, rfl, .inl (sqL_same off_sub sq), ?_⟩
    rw [dwa_len dy]
    exact k _ H (sm_refl H) (.int _)
  · rename_i es
    cases e
    obtain ⟨x, rfl, dx⟩ := dwa_one da
    obtain ⟨a, ys, rfl, sq, dy⟩ := dw_tup dx
    refine ⟨a, ys, rfl, .inr (sqT_same off_sub sq), ?_⟩
    rw [dwa_len dy]
    exact k _ H (sm_refl H) (.int _)
  · cases e
def spF (K : PySem.W.Frag) (n : Nat) (d : List WData → Option WData) : Sp := fun vs H Q _ => vs.length = n ∧ ∃ (P : List Addr) (ds : List WData) (r : WData), (∀ p ∈ P, H p ≠ none) ∧ DwAll K (off P H) vs ds ∧ d ds = some r ∧ ∀ v H', Same H H' → Dw K (off P H') v r → Q v H'
theorem re_call {n : Nat} {h : List WData → Option WData} {t : TA} {f : DA} {E : XK} (ha : RA K n t f) : RE K (tCall (spF K n h) [] E t) (dCall h f) := by
  intro H0 P0 P H σ ρ d Q R e k
  obtain ⟨ds, e1, e⟩ := Option.bind_eq_some_iff.mp e
  refine ha _ _ _ _ _ _ _ _ R e1 fun vs H1 s1 d1 hl => ?_
  rw [List.append_nil]
  exact ⟨hl, P, ds, d, al_same R.al s1, d1, e, fun v H2 s2 d2 => k v H2 (s1.trans s2) d2⟩
end
end Dn
end
section
set_option Elab.async false
set_option linter.all false
set_option maxRecDepth 100000
set_option maxHeartbeats 1000000
namespace Dn
open PySem PySem.Spec L2
open PySem.W (WData Codec)
def OutOk (K : PySem.W.Frag) (H0 : Hp) (P0 : List Addr) (D : Ends) : Out → Prop
  | .nx ρ => ∀ σ H, Rel K H0 P0 H σ ρ → D.nx σ H
  | .rt d => ∀ v H, Same H0 H → Dw K (off P0 H) v d → D.rt v H
  | .bk ρ => ∀ σ H, Rel K H0 P0 H σ ρ → D.bk σ H
  | .ct ρ => ∀ σ H, Rel K H0 P0 H σ ρ → D.ct σ H
def RS (K : PySem.W.Frag) (t : TS) (f : DS) : Prop := ∀ (H0 : Hp) (P0 : List Addr) (D : Ends) (σ : St) (H : Hp) (ρ : Rho) (o : Out), Rel K H0 P0 H σ ρ → f ρ = some o → OutOk K H0 P0 D o → t D σ H
section
variable {K : PySem.W.Frag}
theorem rs_nil : RS K tNext sNil := by
  intro H0 P0 D σ H ρ o R e k
  cases e
  exact k σ H R
theorem rs_seq {t u : TS} {f g : DS} (h1 : RS K t f) (h2 : RS K u g) : RS K (tSeq t u) (sSeq f g) := by
  intro H0 P0 D σ H ρ o R e k
  unfold sSeq at e
  unfold tSeq
  cases ef : f ρ with
  | none =>
    rw [ef] at e
    cases e
  | some q =>
    rw [ef] at e
    refine h1 H0 P0 _ σ H ρ q R ef ?_
    cases q with
    | nx ρ' => exact fun σ' H' R' => h2 H0 P0 D σ' H' ρ' o R' e k
    | rt d =>
      cases e
      exact k
    | bk ρ' =>
      cases e
      exact k
    | ct ρ' =>
      cases e
      exact k
theorem rs_ret {t : TE} {f : DE} (h : RE K t f) : RS K (tRet t) (sRet f) := by
  intro H0 P0 D σ H ρ o R e k
  obtain ⟨P, R⟩ := R
  obtain ⟨d, e1, rfl⟩ := Option.map_eq_some_iff.mp e
  exact h _ _ _ _ _ _ _ _ R e1 fun v H1 s1 d1 => k v H1 (R.sm.trans s1) (dw_same (off_mono R.sub) d1)
theorem rs_if {tc : TT} {t u : TS} {c : DT} {f g : DS} (hc : RT K tc c) (h1 : RS K t f) (h2 : RS K u g) : RS K (tIfS tc t u) (sIf c f g) := by
  intro H0 P0 D σ H ρ o R e k
  obtain ⟨P, R⟩ := R
  obtain ⟨b, e1, e⟩ := Option.bind_eq_some_iff.mp e
  refine hc _ _ _ _ _ _ _ _ R e1 fun H1 s1 => ?_
  split
  · rename_i hb
    rw [if_pos hb] at e
    exact h1 H0 P0 D σ H1 ρ o ⟨P, R.same s1⟩ e k
  · rename_i hb
    rw [if_neg hb] at e
    exact h2 H0 P0 D σ H1 ρ o ⟨P, R.same s1⟩ e k
theorem rs_set {i : Nat} {t : TE} {f : DE} (h : RE K t f) : RS K (tAsg t (gName i)) (sSet i f) := by
  intro H0 P0 D σ H ρ o R e k
  obtain ⟨P, R⟩ := R
  obtain ⟨d, e1, rfl⟩ := Option.map_eq_some_iff.mp e
  exact h _ _ _ _ _ _ _ _ R e1 fun v H1 s1 d1 => k _ H1 ⟨P, (R.same s1).setVal i d1⟩
theorem loop_turn {i : Nat} {tb : TS} {f : DS} (hb : RS K tb f) {H1 H : Hp} {P0 : List Addr} {σ : St} {ρ : Rho} {d : WData} {ds : List WData} {o : Out} {v : V} {D : Ends} {N : St → Hp → Prop} (R : Rel K H1 P0 H σ ρ) (dv : Dw K (off P0 H1) v d)
    (e : loop i f (d :: ds) ρ = some o) (hN : ∀ σ' H' ρ', Rel K H1 P0 H' σ' ρ' → loop i f ds ρ' = some o → N σ' H') (ho : OutOk K H1 P0 D o) :
    tb { D with nx := N, ct := N, bk := D.nx } (σ.set i (some v)) H := by
  obtain ⟨P, R⟩ := R
  have R' : Rel K H1 P0 H (σ.set i (some v)) (ρ.set i (some (.val d))) := ⟨P, R.setVal i (dw_same R.keep dv)⟩
  unfold loop at e
  split at e
  · rename_i ρ' q
    exact hb _ _ _ _ _ _ _ R' q fun σ' H' R2 => hN σ' H' ρ' R2 e
  · rename_i ρ' q
    exact hb _ _ _ _ _ _ _ R' q fun σ' H' R2 => hN σ' H' ρ' R2 e
  · rename_i ρ' q
    cases e
    exact hb _ _ _ _ _ _ _ R' q fun σ' H' R2 => ho σ' H' R2
  · rename_i v q
    cases e
    exact hb _ _ _ _ _ _ _ R' q fun v H' s1 d1 => ho v H' s1 d1
  · cases e
theorem OutOk.here {H0 : Hp} {P0 P : List Addr} {H : Hp} {σ : St} {ρ : Rho} {D : Ends} {o : Out} (R : RelP K H0 P0 P H σ ρ) (k : OutOk K H0 P0 D o) : OutOk K (here P0 P H) P0 D o := by
  cases o with
  | nx ρ => exact fun σ H R2 => k σ H (R2.back R.hereSame)
  | rt d => exact fun v H s1 d1 => k v H (R.hereSame.trans s1) d1
  | bk ρ => exact fun σ H R2 => k σ H (R2.back R.hereSame)
  | ct ρ => exact fun σ H R2 => k σ H (R2.back R.hereSame)
theorem getq {α : Type} {l : List α} {i : Nat} (h : i < l.length) : l.drop i = l[i] :: l.drop (i + 1) := List.drop_eq_getElem_cons h
theorem rs_for {i : Nat} {tl : TE} {tb : TS} {fl : DE} {f : DS} (hl : RE K tl fl) (hb : RS K tb f) : RS K (tFor (iList K tl) (gName i) tb) (sFor i fl f) := by
  intro H0 P0 D σ H ρ o R e k
  obtain ⟨P, R⟩ := R
  unfold sFor at e
  split at e
  · rename_i ds e1
    refine hl _ _ _ _ _ _ _ _ R e1 fun v H1 s1 d1 => ?_
    obtain ⟨a, xs, rfl, sq, da⟩ := dw_lst d1
    have R1 := R.same s1
    refine ⟨a, rfl, ⟨xs, sqL_same off_sub sq⟩, ?_⟩
    have da' := dwa_same (off_here R1.sub) da
    have sq' := sqL_same (off_here R1.sub) sq
    have len := dwa_len da
    have k' := OutOk.here R1 k
    refine for_list (K := K) (a := a) (xs := xs) (fun j σ' H' => ∃ ρ', Rel K (here P0 P H1) P0 H' σ' ρ' ∧ loop i f (ds.drop j) ρ' = some o) ⟨ρ, ⟨P, R1.here⟩, by simpa using e⟩ ?_ ?_ ?_
    · rintro j σ' H' _ ⟨ρ', ⟨P', R'⟩, _⟩
      exact sqL_same off_sub (sqL_same R'.keep sq')
    · rintro j x σ' H' hx ⟨ρ', R', e'⟩
      have hj : j < ds.length := by rw [← len]; exact (List.getElem?_eq_some_iff.mp hx).1
      rw [getq hj] at e'
      obtain ⟨y, hy, dy⟩ := dwa_get j da' (List.getElem?_eq_getElem hj)
      rw [hx] at hy
      cases hy
      exact loop_turn hb R' dy e' (fun σ2 H2 ρ2 R2 e2 => ⟨ρ2, R2, e2⟩) k'
    · rintro σ' H' ⟨ρ', R', e'⟩
      rw [len, List.drop_length] at e'
      cases e'
      exact k' σ' H' R'
  · cases e
theorem rng_len (lo : Int) (n : Nat) : (rng lo n).length = n := by simp [rng]
theorem range_core {i : Nat} {tb : TS} {f : DS} (hb : RS K tb f) {H0 : Hp} {P0 P : List Addr} {D : Ends} {σ : St} {H1 : Hp} {ρ : Rho} {o : Out} {lo : Int} {n : Nat} (R1 : RelP K H0 P0 P H1 σ ρ) (e : loop i f (rng lo n) ρ = some o) (k : OutOk K H0 P0 D o) :
    ∃ W : Nat → Nat → St → Hp → Prop, (∃ m, W 0 m σ H1) ∧ ∀ i' m σ H, W i' m σ H →
      ((Itr lo n).stop i' H ∧ D.nx σ H) ∨ ((Itr lo n).go i' H ∧ ∃ N : St → Hp → Prop, (∀ σ' H', N σ' H' → ∃ m', m' < m ∧ W (i' + 1) m' σ' H') ∧ ∀ x H', (Itr lo n).yld i' H x H' → gName i x σ H' fun σ2 H2 => tb { D with nx := N, ct := N, bk := D.nx } σ2 H2) := by
  have k' := OutOk.here R1 k
  refine for_range (fun j σ' H' => ∃ ρ', Rel K (here P0 P H1) P0 H' σ' ρ' ∧ loop i f ((rng lo n).drop j) ρ' = some o) ⟨ρ, ⟨P, R1.here⟩, by simpa using e⟩ ?_ ?_
  · rintro j σ' H' hj ⟨ρ', R', e'⟩
    rw [getq (by rw [rng_len]; exact hj)] at e'
    have ex : (rng lo n)[j]'(by rw [rng_len]; exact hj) = .int (lo + (j : Nat)) := by simp [rng]
    rw [ex] at e'
    exact loop_turn hb R' (.int _) e' (fun σ2 H2 ρ2 R2 e2 => ⟨ρ2, R2, e2⟩) k'
  · rintro σ' H' ⟨ρ', R', e'⟩
    have z : (rng lo n).drop n = [] := by
      have := List.drop_length (l := rng lo n)
      rw [rng_len] at this
      exact this
    rw [z] at e'
    cases e'
    exact k' σ' H' R'
theorem dwa_two {H : Hp} {xs : List V} {d e : WData} (h : DwAll K H xs [d, e]) : ∃ x y, xs = [x, y] ∧ Dw K H x d ∧ Dw K H y e := by
  cases h with
  | cons a b =>
    obtain ⟨y, rfl, b'⟩ := dwa_one b
    exact ⟨_, _, rfl, a, b'⟩
theorem c62_ok {j : Int} (h : c62 j = true) : -(2 ^ 62) ≤ j ∧ j < 2 ^ 62 := by
  unfold c62 at h
  exact of_yes h
theorem rs_forR1 {i : Nat} {ta : TA} {tb : TS} {fa : DA} {f : DS} (ha : RA K 1 ta fa) (hb : RS K tb f) : RS K (tFor (iRng1 ta) (gName i) tb) (sForR i fa f) := by
  intro H0 P0 D σ H ρ o R e k
  obtain ⟨P, R⟩ := R
  unfold sForR at e
  split at e
  · rename_i j e1
    split at e
    · rename_i c
      refine ha _ _ _ _ _ _ _ _ R e1 fun vs H1 s1 d1 _ => ?_
      obtain ⟨x, rfl, dx⟩ := dwa_one d1
      rw [dw_int dx]
      exact ⟨j, rfl, (c62_ok c).1, (c62_ok c).2, range_core hb (R.same s1) e k⟩
    · cases e
  · rename_i l j e1
    refine ha _ _ _ _ _ _ _ _ R e1 fun vs H1 s1 d1 hl => ?_
    obtain ⟨x, y, rfl, _⟩ := dwa_two d1
    cases hl
  · cases e
theorem rt_yes : RT K tYes dYes := by
  intro H0 P0 P H σ ρ d Q R e k
  cases e
  exact k H (sm_refl H)
structure LcInv (K : PySem.W.Frag) (i : Nat) (ρw : Rho) (c : DT) (f : DE) (P : List Addr) (H1 : Hp) (D : Addr) (out : List WData) (rest : List WData) (k : Nat) (H : Hp) : Prop where
  ex : ∃ (xs : List V) (acc more : List WData), H D = some (.lst xs) ∧ DwAll K (off (D :: P) H) xs acc ∧ lcGo i ρw c f rest = some more ∧ out = acc ++ more ∧ acc.length ≤ k ∧ ∀ b o, H1 b = some o → H b = some o
theorem lc_turn {i : Nat} {vs : List Nat} {tt : TT} {te : TE} {c : DT} {f : DE} (hi : i ∈ vs) (ht : RT K tt c) (he : RE K te f) {H0 : Hp} {P0 P : List Addr} {H1 H : Hp} {σ : St} {ρ : Rho} {D : Addr} {out rest : List WData} {d : WData} {v : V} {k : Nat}
    (R : RelP K H0 P0 P H1 σ ρ) (hD : H1 D = none) (hk : k < 16777216) (I : LcInv K i (wipeR ρ vs) c f P H1 D out (d :: rest) k H) (dv : Dw K (off P H1) v d)
    (hw : L2.wipe ((L2.wipe σ vs).set i (some v)) vs = L2.wipe σ vs) :
    gName i v (L2.wipe σ vs) H fun σ2 H2 => L2.wipe σ2 vs = L2.wipe σ vs ∧ tt σ2 H2 fun b H3 => if b = true then te σ2 H3 fun y H4 => ∃ acc, H4 D = some (.lst acc) ∧ acc.length < sizeLine ∧ LcInv K i (wipeR ρ vs) c f P H1 D out rest (k + 1) (upd H4 D (.lst (acc ++ [y])))
      else LcInv K i (wipeR ρ vs) c f P H1 D out rest (k + 1) H3 := by
  obtain ⟨xs, acc, more, hx, da, el, rfl, hal, sm⟩ := I.ex
  have hDP : D ∉ P := fresh_P R.al hD
  have mo : Same (off P H1) (off (D :: P) H) := fun b o e => by
    rw [off_in] at *
    refine ⟨fun q => ?_, sm b o e.2⟩
    rcases List.mem_cons.mp q with q | q
    · subst q
      rw [hD] at e
      cases e.2
    · exact e.1 q
  have R1 : RelP K H0 P0 (D :: P) H σ ρ := by
    refine ⟨fun p hp => List.mem_cons_of_mem _ (R.sub p hp), ?_, ?_, R.sm.trans sm, ?_, ?_, R.dis, R.len⟩
    · intro p hp
      rcases List.mem_cons.mp hp with q | q
      · subst q
        rw [hx]
        simp
      · exact al_same R.al sm p q
    · intro p hp
      rcases List.mem_cons.mp hp with q | q
      · subst q
        exact .inr (R.sm.free hD)
      · exact R.new p q
    · intro j e q
      obtain ⟨w, a, b⟩ := R.val j e q
      exact ⟨w, a, dw_same mo b⟩
    · intro j es q
      obtain ⟨p, zs, a, b, c', hz, da'⟩ := R.own j es q
      exact ⟨p, zs, a, List.mem_cons_of_mem _ b, c', sm _ _ hz, dwa_same mo da'⟩
  have R2 := (R1.wipe vs).setVal i (dw_same mo dv)
  refine ⟨hw, ?_⟩
  unfold lcGo at el
  obtain ⟨b, e1, el⟩ := Option.bind_eq_some_iff.mp el
  refine ht _ _ _ _ _ _ _ _ R2 e1 fun H3 s3 => ?_
  split
  · rename_i hb
    rw [if_pos hb] at el
    obtain ⟨y, e2, el⟩ := Option.bind_eq_some_iff.mp el
    obtain ⟨more', e3, rfl⟩ := Option.map_eq_some_iff.mp el
    refine he _ _ _ _ _ _ _ _ (R2.same s3) e2 fun w H4 s4 d4 => ?_
    have s34 := s3.trans s4
    refine ⟨xs, s34 _ _ hx, by rw [sizeLine_eq, dwa_len da]; omega, ⟨xs ++ [w], acc ++ [y], more', upd_same, ?_, e3, by simp, by simp; omega, ?_⟩⟩
    · rw [off_upd (List.mem_cons_self ..)]
      exact dwa_app (dwa_same (off_same s34) da) (.cons d4 .nil)
    · intro b' o e
      rw [upd_ne (ne_of_none e hD)]
      exact s34 _ _ (sm b' o e)
  · rename_i hb
    rw [if_neg hb] at el
    exact ⟨xs, acc, more, s3 _ _ hx, dwa_same (off_same s3) da, el, rfl, by omega, fun b' o e => s3 _ _ (sm b' o e)⟩
theorem wipe1_set {σ : St} {i : Nat} {v : Option V} : L2.wipe ((L2.wipe σ [i]).set i v) [i] = L2.wipe σ [i] := by
  simp [L2.wipe, List.set_set]
theorem lc_start {i : Nat} {vs : List Nat} {c : DT} {f : DE} {P : List Addr} {H1 : Hp} {D : Addr} {ρ : Rho} {ds out : List WData} (hD : H1 D = none) (e : lcGo i (wipeR ρ vs) c f ds = some out) : LcInv K i (wipeR ρ vs) c f P H1 D out ds 0 (upd H1 D (.lst [])) :=
  ⟨[], [], out, upd_same, .nil, e, rfl, Nat.le_refl _, fun b o q => by rw [upd_ne (ne_of_none q hD)]; exact q⟩
theorem lc_end {i : Nat} {ρw : Rho} {c : DT} {f : DE} {P : List Addr} {H1 H : Hp} {D : Addr} {out : List WData} {k : Nat} (I : LcInv K i ρw c f P H1 D out [] k H) : ∃ xs, H D = some (.lst xs) ∧ DwAll K (off (D :: P) H) xs out ∧ Same H1 H := by
  obtain ⟨xs, acc, more, hx, da, el, rfl, _, sm⟩ := I.ex
  cases el
  rw [List.append_nil]
  exact ⟨xs, hx, da, sm⟩
theorem rf_lc {i : Nat} {tl te : TE} {tt : TT} {fl f : DE} {c : DT} (hl : RE K tl fl) (ht : RT K tt c) (he : RE K te f) : RF K (tLc (iList K tl) (gName i) tt te [i]) (dLc i [i] fl c f) := by
  intro H0 P0 P H σ ρ out Q R e k
  unfold dLc at e
  split at e
  · rename_i ds e1
    split at e
    · rename_i hz
      have hz := of_yes hz
      refine hl _ _ _ _ _ _ _ _ R e1 fun v H1 s1 d1 => ?_
      obtain ⟨a, xs, rfl, sq, da⟩ := dw_lst d1
      have R1 := R.same s1
      have len := dwa_len da
      refine ⟨a, rfl, ⟨xs, sqL_same off_sub sq⟩, fun D hD => ?_⟩
      refine lc_list (K := K) (a := a) (xs := xs) (fun j H' => LcInv K i (wipeR ρ [i]) c f P H1 D out (ds.drop j) j H') (by simpa using lc_start hD e) ?_ ?_ ?_
      · rintro j H' _ I
        obtain ⟨_, _, _, _, _, _, _, _, sm⟩ := I.ex
        exact sqL_same (fun b o q => sm b o (off_sub b o q)) sq
      · intro j x H' hx I
        have hj : j < ds.length := by rw [← len]; exact (List.getElem?_eq_some_iff.mp hx).1
        rw [getq hj] at I
        obtain ⟨y, hy, dy⟩ := dwa_get j da (List.getElem?_eq_getElem hj)
        rw [hx] at hy
        cases hy
        exact lc_turn (List.mem_singleton.mpr rfl) ht he R1 hD (by omega) I dy wipe1_set
      · intro H' I
        rw [len, List.drop_length] at I
        obtain ⟨ys, h1, h2, h3⟩ := lc_end I
        exact k D ys H' (s1.free hD) (s1.trans h3) h1 h2
    · cases e
  · cases e
theorem lcr_core {i : Nat} {te : TE} {tt : TT} {f : DE} {c : DT} (ht : RT K tt c) (he : RE K te f) {H0 : Hp} {P0 P : List Addr} {H1 : Hp} {σ : St} {ρ : Rho} {out : List WData} {lo : Int} {n : Nat} {D : Addr} {Qd : Hp → Prop} (R1 : RelP K H0 P0 P H1 σ ρ) (hn : n < 16777216) (hD : H1 D = none)
    (e : lcGo i (wipeR ρ [i]) c f (rng lo n) = some out) (k : ∀ xs H', Same H1 H' → H' D = some (.lst xs) → DwAll K (off (D :: P) H') xs out → Qd H') :
    ∃ W : Nat → Nat → Hp → Prop, (∃ m, W 0 m (upd H1 D (.lst []))) ∧ ∀ j m H, W j m H →
      ((Itr lo n).stop j H ∧ Qd H) ∨ ((Itr lo n).go j H ∧ ∃ Nx : Hp → Prop, (∀ H', Nx H' → ∃ m', m' < m ∧ W (j + 1) m' H') ∧ ∀ x H', (Itr lo n).yld j H x H' → gName i x (L2.wipe σ [i]) H' fun σ2 H2 => L2.wipe σ2 [i] = L2.wipe σ [i] ∧ tt σ2 H2 fun b H3 =>
        if b = true then te σ2 H3 fun y H4 => ∃ acc, H4 D = some (.lst acc) ∧ acc.length < sizeLine ∧ Nx (upd H4 D (.lst (acc ++ [y]))) else Nx H3) := by
  refine lc_range (fun j H' => LcInv K i (wipeR ρ [i]) c f P H1 D out ((rng lo n).drop j) j H') (by simpa using lc_start hD e) ?_ ?_
  · intro j H' hj I
    rw [getq (by rw [rng_len]; exact hj)] at I
    have ex : (rng lo n)[j]'(by rw [rng_len]; exact hj) = .int (lo + (j : Nat)) := by simp [rng]
    rw [ex] at I
    exact lc_turn (List.mem_singleton.mpr rfl) ht he R1 hD (by omega) I (.int _) wipe1_set
  · intro H' I
    have z : (rng lo n).drop n = [] := by
      have := List.drop_length (l := rng lo n)
      rw [rng_len] at this
      exact this
    rw [z] at I
    obtain ⟨ys, h1, h2, h3⟩ := lc_end I
    exact k ys H' h3 h1 h2
theorem rf_lcR1 {i : Nat} {ta : TA} {te : TE} {tt : TT} {fa : DA} {f : DE} {c : DT} (ha : RA K 1 ta fa) (ht : RT K tt c) (he : RE K te f) : RF K (tLc (iRng1 ta) (gName i) tt te [i]) (dLcR i [i] fa c f) := by
  intro H0 P0 P H σ ρ out Q R e k
  unfold dLcR at e
  split at e
  · rename_i j e1
    split at e
    · rename_i cc
      obtain ⟨c1, c2⟩ := Bool.and_eq_true_iff.mp cc
      have c2 := of_yes c2
      refine ha _ _ _ _ _ _ _ _ R e1 fun vs H1 s1 d1 _ => ?_
      obtain ⟨x, rfl, dx⟩ := dwa_one d1
      rw [dw_int dx]
      refine ⟨j, rfl, (c62_ok c1).1, (c62_ok c1).2, fun D hD => ?_⟩
      exact lcr_core ht he (R.same s1) (by omega) hD e fun xs H' s h1 h2 => k D xs H' (s1.free hD) (s1.trans s) h1 h2
    · cases e
  · rename_i l j e1
    refine ha _ _ _ _ _ _ _ _ R e1 fun vs H1 s1 d1 hl => ?_
    obtain ⟨x, y, rfl, _⟩ := dwa_two d1
    cases hl
  · cases e
def rCatL (K : PySem.W.Frag) : R2 := fun x y H Q => ∃ l b xs zs, x = .ref l ∧ y = .ref b ∧ SqL K H l xs ∧ SqL K H b zs ∧ xs.length + zs.length ≤ sizeLine ∧ ∀ p, H p = none → Q (.ref p) (upd H p (.lst (xs ++ zs)))
theorem rf_cat {ta tb : TE} {f g : DE} (ha : RE K ta f) (hb : RE K tb g) : RF K (tOp (rCatL K) ta tb) (dCat f g) := by
  intro H0 P0 P H σ ρ out Q R e k
  obtain ⟨x, e1, e⟩ := Option.bind_eq_some_iff.mp e
  obtain ⟨y, e2, e⟩ := Option.bind_eq_some_iff.mp e
  split at e
  · rename_i a b
    split at e
    · rename_i hz
      have hz := of_yes hz
      cases e
      refine ha _ _ _ _ _ _ _ _ R e1 fun v H1 s1 d1 => ?_
      refine hb _ _ _ _ _ _ _ _ (R.same s1) e2 fun w H2 s2 d2 => ?_
      obtain ⟨p, xs, rfl, sq, da⟩ := dw_lst (dw_same (off_same s2) d1)
      obtain ⟨q, zs, rfl, sz, db⟩ := dw_lst d2
      refine ⟨p, q, xs, zs, rfl, rfl, sqL_same off_sub sq, sqL_same off_sub sz, by rw [sizeLine_eq, dwa_len da, dwa_len db]; exact hz, fun r hr => ?_⟩
      have s12 := s1.trans s2
      exact k r _ _ (s12.free hr) (upd_new s12 hr) upd_same (dwa_same (off_new hr) (dwa_app da db))
    · cases e
  · cases e
end
section
variable {X : Cx}
theorem op_catL : OpR X (binaryOp .Add) (rCatL X.K) := by
  intro pins s σ H x y v u Q I rx ry h
  obtain ⟨l, b, xs, zs, rfl, rfl, hH, hB, hz, q⟩ := h
  cases rx
  cases ry
  obtain ⟨its, r, pl, z1⟩ := I.list hH
  obtain ⟨its2, r2, pl2, z2⟩ := I.list hB
  have l1 := r.length
  have l2 := r2.length
  obtain ⟨⟨cls, dd, data, sl⟩, n, ho, hc, hd, hs⟩ := pl
  obtain ⟨⟨cls2, dd2, data2, sl2⟩, n2, ho2, hc2, hd2, hs2⟩ := pl2
  simp only at hc hd hs hc2 hd2 hs2
  subst hc hd hs hc2 hd2 hs2
  refine PySem.concat_meets ⟨_, ho, rfl⟩ ⟨_, ho2, rfl⟩ PySem.noFill_list_add PySem.seq_list_add PySem.F.slot_list_add PySem.F.entry_list_add (PySem.F.args_list_add_2 _ _) (PyProof.Rows.list_addW l b its.toArray its2.toArray n n2 none none sl sl2 (by rw [List.size_toArray, List.size_toArray]; omega)) ⟨ho, ho2, ?_⟩
  have ea : its.toArray ++ its2.toArray = (its ++ its2).toArray := by simp
  rw [ea]
  exact ⟨.ref _, _, I.lnew (t' := s.toks) (r.append r2) (by rw [List.length_append]; omega), rfl, q _ I.fresh⟩
end
theorem init_rel {K : PySem.W.Frag} {P : List Addr} {H : Hp} {vs : List V} {ds : List WData} {N : List Str} (al : ∀ p ∈ P, H p ≠ none) (da : DwAll K (off P H) vs ds) : Rel K H P H (L2.start N vs) (initR N.length ds) := by
  have len := dwa_len da
  have no : ∀ {j : Nat} {es : List WData}, (initR N.length ds)[j]? = some (some (Sl.own es)) → False := fun {j es} q => by
    unfold initR at q
    rw [List.getElem?_append] at q
    split at q
    · rw [List.getElem?_map] at q
      cases z : ds[j]? with
      | none =>
        rw [z] at q
        cases q
      | some d =>
        rw [z] at q
        cases q
    · rw [List.getElem?_replicate] at q
      split at q <;> cases q
  refine ⟨P, fun _ h => h, al, fun _ h => .inl h, sm_refl H, ?_, fun i es q => (no q).elim, fun i j as bs p q1 => (no q1).elim, ?_⟩
  · intro i d q
    unfold initR at q
    rw [List.getElem?_append] at q
    split at q
    · rename_i hi
      rw [List.length_map] at hi
      rw [List.getElem?_map] at q
      cases z : ds[i]? with
      | none =>
        rw [z] at q
        cases q
      | some d' =>
        rw [z] at q
        cases q
        obtain ⟨v, e1, e2⟩ := dwa_get i da z
        refine ⟨v, ?_, e2⟩
        unfold L2.start
        rw [List.getElem?_append_left (by rw [List.length_map, len]; exact hi), List.getElem?_map, e1]
        rfl
    · rw [List.getElem?_replicate] at q
      split at q <;> cases q
  · unfold L2.start initR
    simp [len]
section
variable {P : Program} {w : World} {K : PySem.W.Frag} {mg : Str → Option Value} {base : Heap}
theorem den_ok {x qual : Str} {st : Stmt} {f : Addr} {fd : FuncData} {N ps : List Str} {k : Nat} {fs : DS} (F : Fun K x qual st f fd) (S : FnScope N ps (defScope st))
    (hbody : ∀ (cdv : Value) (A : Around) (outer : List Env) (s : Shared) (H : Hp) (E : XK), Room k (A.deeper (PyProof.Rows.envOfC qual (defScope st) s.heap.objs.size f cdv)) →
      ∃ t, PSs (cxOf CX0 P w K mg base N qual (defScope st) f cdv A outer s H E).nox (defBody st) t ∧ RS K t fs) : FnOk P w K mg base CX0 (k + 1) f fd ps (spF K ps.length (body N.length fs)) := by
  refine F.ok S (fun vs H Q E h => h.1) (fun cdv A outer s H vs Q E hr h => ?_)
  obtain ⟨t, h1, h2⟩ := hbody cdv A outer s H E hr
  refine ⟨t, h1, ?_⟩
  obtain ⟨_, P', ds, r, al, da, e, q⟩ := h
  unfold body at e
  split at e
  · rename_i d e1
    cases e
    exact h2 H P' _ _ _ _ _ (init_rel al da) e1 fun v H' s1 d1 => q v H' s1 d1
  · rename_i ρ e1
    cases e
    refine h2 H P' _ _ _ _ _ (init_rel al da) e1 fun σ' H' R' => ?_
    obtain ⟨P2, R2⟩ := R'
    exact q .non H' R2.sm .non
  · cases e
structure Cal (P : Program) (w : World) (K : PySem.W.Frag) (mg : Str → Option Value) (base : Heap) (k : Nat) (x : Str) (ps : List Str) (n : Nat) (d : List WData → Option WData) : Prop where
  ex : ∃ (f : Addr) (fd : FuncData), FnOk P w K mg base CX0 k f fd ps (spF K n d) ∧ mg x = some (.ref f) ∧ PySem.W.keepIn K (.ref f) = true ∧ Binds K fd ps []
end
section
variable {X : Cx} {k : Nat} {x : Str} {ps : List Str} {n : Nat} {d : List WData → Option WData} {e : Expr} {es : List Expr} {t : TA} {p pos : Pos}
theorem pe_cal (C : Cal X.prog X.w X.K X.mg X.base k x ps n d) {m : Nat} (hr : Room m X.A) (hk : k ≤ m) (hg : Gl X x) (ha : PA X (e :: es) t) (hdb : (x == ("__debug__" : Str)) = false := by decide) (he : starEach (e :: es) X.env = (false, eval e X.env) :: starEach es X.env := by rfl)
    (hpl : (backTo pos (starEach es X.env)).any (·.1) = false := by rfl) : PE X (.Call (.Name x p) (e :: es) [] pos) (tCall (spF X.K n d) [] E0 t) := by
  obtain ⟨f, fd, F, hm, hkp, hb⟩ := C.ex
  exact pe_call F (hr.mono hk) hg hm hkp hb .nil pass0 ha hdb he hpl
end
end Dn
end
section
namespace Dn
open PySem PySem.Spec L2
open PySem.W (WData Codec)
theorem last_sp {K : PySem.W.Frag} {n : Nat} {d : List WData → Option WData} {H : Hp} {xs : List V} {ds : List WData} {r : WData} (hx : DwAll K H xs ds) (hn : ds.length = n) (e : d ds = some r) :
    spF K n d xs H (fun v H' => Dw K H' v r) (fun _ _ _ => False) :=
  ⟨(dwa_len hx).trans hn, [], ds, r, (fun p hp => by simp at hp), by rw [off_nil]; exact hx, e, fun v H' _ d1 => by rw [off_nil] at d1; exact d1⟩
end Dn
end
section
set_option Elab.async false
set_option linter.all false
set_option maxRecDepth 100000
set_option maxHeartbeats 1000000
noncomputable section
namespace Dn
open L2
open PySem.W (WData)
def boolsOf : List WData → Option (List Bool)
  | [] => some []
  | .bool b :: r => (boolsOf r).map (b :: ·)
  | _ => none
def hIdxI : WData → List WData → Option WData
  | .list ds, [.int i] => (intsOf ds).bind fun ns => if yes (i ∈ ns) = true then some (.int ((ns.idxOf i : Nat) : Int)) else none
  | _, _ => none
def dMeth (h : WData → List WData → Option WData) (f : DE) (g : DA) : DE := fun ρ => (f ρ).bind fun x => (g ρ).bind fun xs => h x xs
def hEqL : WData → WData → Option WData
  | .list a, .list b => (intsOf a).bind fun x => (intsOf b).bind fun y => some (.bool (decide (x = y)))
  | _, _ => none
def fAll : List WData → Option WData
  | [.list ds] => (boolsOf ds).map fun bs => .bool (bs.all id)
  | _ => none
def fListOf : List WData → Option (List WData)
  | [.list ds] => some ds
  | [.tuple ds] => some ds
  | _ => none
def dNew (h : List WData → Option (List WData)) (f : DA) : DA := fun ρ => (f ρ).bind h
def cut (lo hi : Nat) : WData → Option (List WData)
  | .list ds => some ((ds.drop lo).take (hi - lo))
  | _ => none
def dCut (lo hi : Nat) (f : DE) : DA := fun ρ => (f ρ).bind (cut lo hi)
def hRep (ds : List WData) : WData → Option (List WData)
  | .int k => if yes (-(2 ^ 63) ≤ k ∧ k < 2 ^ 63 ∧ ds.length * k.toNat ≤ 16777216) = true then some (List.replicate k.toNat ds).flatten else none
  | _ => none
def dRep (f : DA) (g : DE) : DA := fun ρ => (f ρ).bind fun ds => (g ρ).bind fun k => hRep ds k
theorem boolsOf_bools : ∀ rs : List Bool, boolsOf (rs.map .bool) = some rs
  | [] => rfl
  | n :: r => by
    show (boolsOf (r.map .bool)).map (n :: ·) = _
    rw [boolsOf_bools r]
    rfl
theorem hIdxI_i {ns : List Int} {i : Int} (h : i ∈ ns) : hIdxI (.list (ns.map .int)) [.int i] = some (.int ((ns.idxOf i : Nat) : Int)) := by
  show (intsOf (ns.map .int)).bind _ = _
  rw [intsOf_ints, Option.bind_some, if_pos (yes_of h)]
theorem hEqL_ll (a b : List Int) : hEqL (.list (a.map .int)) (.list (b.map .int)) = some (.bool (decide (a = b))) := by
  show (intsOf (a.map .int)).bind (fun x => (intsOf (b.map .int)).bind fun y => some (WData.bool (decide (x = y)))) = _
  rw [intsOf_ints, intsOf_ints]
  rfl
theorem fAll_b (bs : List Bool) : fAll [.list (bs.map .bool)] = some (.bool (bs.all id)) := by
  show (boolsOf (bs.map .bool)).map _ = _
  rw [boolsOf_bools]
  rfl
theorem fListOf_t (ds : List WData) : fListOf [.tuple ds] = some ds := rfl
theorem cut_l (lo hi : Nat) (ds : List WData) : cut lo hi (.list ds) = some ((ds.drop lo).take (hi - lo)) := rfl
theorem hRep_i {ds : List WData} {k : Int} (h0 : 0 ≤ k) (h : k < 1000) (hz : ds.length ≤ 1000) : hRep ds (.int k) = some (List.replicate k.toNat ds).flatten := by
  refine if_pos (yes_of ⟨?_, ?_, ?_⟩)
  · have : (-(2 ^ 63) : Int) = -9223372036854775808 := by decide
    omega
  · have : ((2 : Int) ^ 63) = 9223372036854775808 := by decide
    omega
  · have h1 : k.toNat ≤ 1000 := by omega
    exact Nat.le_trans (Nat.mul_le_mul hz h1) (by omega)
def lcRs (i : Nat) (ρ : Rho) (c : DT) (f : DE) : List WData → Option (List WData)
  | [.int j] => if (c62 j && yes (j < 16777216)) = true then lcGo i ρ c f (rng 0 j.toNat) else none
  | [.int l, .int j] => if (c62 l && (c62 j && yes (j - l < 16777216))) = true then lcGo i ρ c f (rng l (j - l).toNat) else none
  | _ => none
theorem dLcR_eq (i : Nat) (vs : List Nat) (fa : DA) (c : DT) (f : DE) (ρ : Rho) : dLcR i vs fa c f ρ = (fa ρ).bind (lcRs i (wipeR ρ vs) c f) := by
  unfold dLcR
  cases fa ρ with
  | none => rfl
  | some ds =>
    rw [Option.bind_some]
    unfold lcRs
    split <;> (rename_i h; try cases h) <;> first | rfl | (split <;> first | rfl | (rename_i h2; cases h2; exact (h _ rfl).elim) | skip)
    all_goals simp_all
theorem lcRs_1 {i : Nat} {ρ : Rho} {c : DT} {f : DE} {j : Int} (h0 : 0 ≤ j) (hj : j < 16777216) : lcRs i ρ c f [.int j] = lcGo i ρ c f (rng 0 j.toNat) := by
  show (if (c62 j && yes (j < 16777216)) = true then _ else none) = _
  rw [c62_of (by omega) (by omega), yes_of hj]
  rfl
theorem lcGo_map {i : Nat} {ρ : Rho} {f : DE} {α : Type} (g : α → WData) (h : α → WData) : ∀ {l : List α}, (∀ a ∈ l, f (ρ.set i (some (.val (g a)))) = some (h a)) → lcGo i ρ dYes f (l.map g) = some (l.map h)
  | [], _ => rfl
  | a :: l, e => by
    have ih := lcGo_map g h (l := l) fun b hb => e b (List.mem_cons_of_mem _ hb)
    show (dYes _).bind _ = _
    simp only [dYes, Option.bind_some, if_true, e a (List.mem_cons_self ..), List.map_cons]
    show (lcGo i ρ dYes f (l.map g)).map _ = _
    rw [ih]
    rfl
theorem lcGo_filter {i : Nat} {ρ : Rho} {c : DT} {f : DE} {α : Type} (g : α → WData) (h : α → WData) (q : α → Bool) : ∀ {l : List α}, (∀ a ∈ l, c (ρ.set i (some (.val (g a)))) = some (q a)) → (∀ a ∈ l, q a = true → f (ρ.set i (some (.val (g a)))) = some (h a)) → lcGo i ρ c f (l.map g) = some ((l.filter q).map h)
  | [], _, _ => rfl
  | a :: l, e1, e2 => by
    have ih := lcGo_filter g h q (l := l) (fun b hb => e1 b (List.mem_cons_of_mem _ hb)) (fun b hb => e2 b (List.mem_cons_of_mem _ hb))
    show (c _).bind _ = _
    rw [e1 a (List.mem_cons_self ..), Option.bind_some]
    cases hq : q a with
    | false =>
      rw [if_neg (by simp), ih, List.filter_cons_of_neg (by simp [hq])]
    | true =>
      rw [if_pos rfl, e2 a (List.mem_cons_self ..) hq, Option.bind_some, ih, List.filter_cons_of_pos hq]
      rfl
theorem rng_map (n : Nat) : rng 0 n = (List.range n).map fun (k : Nat) => .int (k : Int) := by
  unfold rng
  refine List.map_congr_left fun k _ => ?_
  congr 1
  omega
end Dn
end
end
section
set_option Elab.async false
set_option linter.all false
set_option maxRecDepth 100000
set_option maxHeartbeats 1000000
namespace Dn
open PySem PySem.Spec L2
open PySem.W (WData Codec)
theorem idx_spec {α : Type} [BEq α] [LawfulBEq α] {i : α} : ∀ {ns : List α}, i ∈ ns → ns[ns.idxOf i]? = some i ∧ ∀ (m : Nat) (z : α), m < ns.idxOf i → ns[m]? = some z → (z == i) = false
  | [], h => by cases h
  | n :: r, h => by
    cases e : n == i with
    | true =>
      have e0 := beq_iff_eq.mp e
      subst e0
      rw [List.idxOf_cons_self]
      exact ⟨rfl, fun m z hm => by omega⟩
    | false =>
      have hr : i ∈ r := by
        rcases List.mem_cons.mp h with q | q
        · subst q
          simp at e
        · exact q
      have ⟨h1, h2⟩ := idx_spec hr
      have ei : (n :: r).idxOf i = r.idxOf i + 1 := by
        rw [List.idxOf_cons, e]
        rfl
      rw [ei]
      refine ⟨h1, fun m z hm hz => ?_⟩
      cases m with
      | zero =>
        cases hz
        exact e
      | succ m => exact h2 m z (by omega) hz
section
variable {K : PySem.W.Frag}
theorem boolsOf_map : ∀ {ds : List WData} {bs : List Bool}, boolsOf ds = some bs → ds = bs.map .bool
  | [], rs, h => by cases h; rfl
  | d :: r, rs, h => by
    unfold boolsOf at h
    split at h
    · rename_i z
      cases z
    · rename_i b r' z
      cases z
      obtain ⟨ms, h3, rfl⟩ := Option.map_eq_some_iff.mp h
      rw [boolsOf_map h3]
      rfl
    · cases h
theorem bools_dw {H : Hp} : ∀ {bs : List Bool} {xs : List V}, DwAll K H xs (bs.map .bool) → xs = bs.map V.bl
  | [], _, .nil => rfl
  | b :: bs, _, .cons h a => by rw [dw_bl h, bools_dw a]; rfl
theorem rc_all : RC K (rAll K) fAll := by
  intro P H xs ds d Q al da e k
  unfold fAll at e
  split at e
  · rename_i es
    obtain ⟨bs, e1, rfl⟩ := Option.map_eq_some_iff.mp e
    obtain ⟨x, rfl, dx⟩ := dwa_one da
    obtain ⟨a, ys, rfl, sq, dy⟩ := dw_lst dx
    rw [boolsOf_map e1] at dy
    have := bools_dw dy
    subst this
    exact ⟨a, bs, rfl, sqL_same off_sub sq, k _ H (sm_refl H) (.bl _)⟩
  · cases e
theorem dwa_rep {H : Hp} {xs : List V} {ds : List WData} (h : DwAll K H xs ds) : ∀ n : Nat, DwAll K H (List.replicate n xs).flatten (List.replicate n ds).flatten
  | 0 => by simp; exact .nil
  | n + 1 => by
    rw [List.replicate_succ, List.replicate_succ, List.flatten_cons, List.flatten_cons]
    exact dwa_app h (dwa_rep h n)
theorem rf_rep {ta tb : TE} {f : DA} {g : DE} (ha : RF K ta f) (hb : RE K tb g) : RF K (tOp rRep ta tb) (dRep f g) := by
  intro H0 P0 P H σ ρ out Q R e k
  obtain ⟨ds, e1, e⟩ := Option.bind_eq_some_iff.mp e
  obtain ⟨y, e2, e⟩ := Option.bind_eq_some_iff.mp e
  unfold hRep at e
  split at e
  · rename_i z
    split at e
    · rename_i hz
      obtain ⟨z1, z2, z3⟩ := of_yes hz
      cases e
      refine ha _ _ _ _ _ _ _ _ R e1 fun p xs H1 hn s1 hp da => ?_
      refine hb _ _ _ _ _ _ _ _ (R.same s1) e2 fun w H2 s2 d2 => ?_
      refine ⟨p, z, xs, rfl, dw_int d2, s2 _ _ hp, z1, z2, by rw [sizeLine_eq, dwa_len da]; exact z3, fun r hr => ?_⟩
      have s12 := s1.trans s2
      exact k r _ _ (s12.free hr) (upd_new s12 hr) upd_same (dwa_same (off_new hr) (dwa_rep (dwa_same (off_same s2) (dwa_same (off_mono fun q hq => List.mem_cons_of_mem _ hq) da)) _))
    · cases e
  · cases e
theorem re_meth {n : Nat} {r : V → List V → Hp → VK → Prop} {h : WData → List WData → Option WData} {to : TE} {t : TA} {f : DE} {g : DA}
    (hr : ∀ (P : List Addr) (H : Hp) (x : V) (xs : List V) (dx : WData) (ds : List WData) (d : WData) (Q : VK), (∀ p ∈ P, H p ≠ none) → Dw K (off P H) x dx → DwAll K (off P H) xs ds → h dx ds = some d → (∀ v H', Same H H' → Dw K (off P H') v d → Q v H') → r x xs H Q)
    (hl : ∀ dx ds d, h dx ds = some d → ∃ es, dx = .list es) (ho : RE K to f) (ha : RA K n t g) : RE K (tBM K "list" r to t) (dMeth h f g) := by
  intro H0 P0 P H σ ρ d Q R e k
  obtain ⟨x, e1, e⟩ := Option.bind_eq_some_iff.mp e
  obtain ⟨xs, e2, e⟩ := Option.bind_eq_some_iff.mp e
  obtain ⟨es, rfl⟩ := hl _ _ _ e
  refine ho _ _ _ _ _ _ _ _ R e1 fun v H1 s1 d1 => ?_
  obtain ⟨a, ys, rfl, sq, da⟩ := dw_lst d1
  refine ⟨.inl ⟨rfl, ys, sqL_same off_sub sq⟩, ?_⟩
  refine ha _ _ _ _ _ _ _ _ (R.same s1) e2 fun vs H2 s2 d2 _ => ?_
  exact hr P H2 _ vs _ xs d Q (al_same R.al (s1.trans s2)) (dw_same (off_same s2) d1) d2 e fun z H3 s3 d3 => k z H3 ((s1.trans s2).trans s3) d3
theorem re_idxI {n : Nat} {to : TE} {t : TA} {f : DE} {g : DA} (ho : RE K to f) (ha : RA K n t g) : RE K (tBM K "list" (rIndex K) to t) (dMeth hIdxI f g) := by
  refine re_meth ?_ ?_ ho ha
  · intro P H x xs dx ds d Q al d1 d2 e k
    unfold hIdxI at e
    split at e
    · rename_i es i
      obtain ⟨ns, e1, e⟩ := Option.bind_eq_some_iff.mp e
      split at e
      · rename_i hm
        have hm := of_yes hm
        cases e
        obtain ⟨a, ys, rfl, sq, dy⟩ := dw_lst d1
        rw [intsOf_map e1] at dy
        have := ints_dw ns ys dy
        subst this
        obtain ⟨y, rfl, dy1⟩ := dwa_one d2
        rw [dw_int dy1]
        obtain ⟨h1, h2⟩ := idx_spec hm
        refine ⟨a, _, .int i, ns.idxOf i, .int i, rfl, rfl, sqL_same off_sub sq, rfl, flat_ints ns, by rw [List.getElem?_map, h1]; rfl, by show (i == i) = true; simp, fun m z hm2 hz => ?_, k _ H (sm_refl H) (.int _)⟩
        rw [List.getElem?_map] at hz
        obtain ⟨q, hq, rfl⟩ := Option.map_eq_some_iff.mp hz
        exact h2 m q hm2 hq
      · cases e
    · cases e
  · intro dx ds d e
    unfold hIdxI at e
    split at e
    · exact ⟨_, rfl⟩
    · cases e
end
section
variable {X : Cx}
end
end Dn
end
section
set_option Elab.async false
set_option linter.all false
set_option maxRecDepth 100000
set_option maxHeartbeats 1000000
namespace Pb
structure Z (p : Nat) where
  v : Int
  ok : v % (p : Int) = v
namespace Z
variable {p : Nat}
theorem ext {a b : Z p} (h : a.v = b.v) : a = b := by
  cases a; cases b; cases h; rfl
def c (p : Nat) (z : Int) : Z p := ⟨z % p, Int.emod_emod_of_dvd z (Int.dvd_refl _)⟩
theorem c_v (a : Z p) : c p a.v = a := ext a.ok
theorem v_c (z : Int) : (c p z).v = z % p := rfl
theorem c_eq {x y : Int} : c p x = c p y ↔ x % p = y % p :=
  ⟨fun h => congrArg Z.v h, fun h => ext h⟩
instance : Add (Z p) := ⟨fun a b => c p (a.v + b.v)⟩
instance : Mul (Z p) := ⟨fun a b => c p (a.v * b.v)⟩
instance : Neg (Z p) := ⟨fun a => c p (-a.v)⟩
instance : Sub (Z p) := ⟨fun a b => c p (a.v - b.v)⟩
instance : NatCast (Z p) := ⟨fun n => c p (n : Int)⟩
instance : IntCast (Z p) := ⟨fun n => c p n⟩
instance (n : Nat) : OfNat (Z p) n := ⟨c p (n : Int)⟩
instance : SMul Nat (Z p) := ⟨fun n a => (n : Z p) * a⟩
instance : SMul Int (Z p) := ⟨fun n a => (n : Z p) * a⟩
def pw (a : Z p) : Nat → Z p
  | 0 => 1
  | n + 1 => pw a n * a
instance : HPow (Z p) Nat (Z p) := ⟨pw⟩
theorem c_add (x y : Int) : c p (x + y) = c p x + c p y := ext (Int.add_emod x y p)
theorem c_mul (x y : Int) : c p (x * y) = c p x * c p y := ext (Int.mul_emod x y p)
theorem c_sub (x y : Int) : c p (x - y) = c p x - c p y := ext (Int.sub_emod x y p)
theorem c_neg (x : Int) : c p (-x) = - c p x := by
  refine ext ?_
  show (-x) % p = (-(x % p)) % p
  have h := Int.sub_emod 0 x p
  have h2 := Int.sub_emod 0 (x % p) p
  rw [Int.emod_emod_of_dvd x (Int.dvd_refl _)] at h2
  rw [Int.zero_sub] at h h2
  rw [h, h2]
theorem rep (a : Z p) : ∃ z, a = c p z := ⟨a.v, (c_v a).symm⟩
theorem c_zero : c p 0 = 0 := rfl
theorem c_one : c p 1 = 1 := rfl
instance : Lean.Grind.CommRing (Z p) where
  add_zero a := by obtain ⟨x, rfl⟩ := rep a; rw [← c_zero, ← c_add, Int.add_zero]
  add_comm a b := by obtain ⟨x, rfl⟩ := rep a; obtain ⟨y, rfl⟩ := rep b; rw [← c_add, ← c_add, Int.add_comm]
  add_assoc a b d := by obtain ⟨x, rfl⟩ := rep a; obtain ⟨y, rfl⟩ := rep b; obtain ⟨z, rfl⟩ := rep d; simp only [← c_add, Int.add_assoc]
  mul_assoc a b d := by obtain ⟨x, rfl⟩ := rep a; obtain ⟨y, rfl⟩ := rep b; obtain ⟨z, rfl⟩ := rep d; simp only [← c_mul, Int.mul_assoc]
  mul_one a := by obtain ⟨x, rfl⟩ := rep a; rw [← c_one, ← c_mul, Int.mul_one]
  one_mul a := by obtain ⟨x, rfl⟩ := rep a; rw [← c_one, ← c_mul, Int.one_mul]
  left_distrib a b d := by obtain ⟨x, rfl⟩ := rep a; obtain ⟨y, rfl⟩ := rep b; obtain ⟨z, rfl⟩ := rep d; simp only [← c_mul, ← c_add, Int.mul_add]
  right_distrib a b d := by obtain ⟨x, rfl⟩ := rep a; obtain ⟨y, rfl⟩ := rep b; obtain ⟨z, rfl⟩ := rep d; simp only [← c_mul, ← c_add, Int.add_mul]
  zero_mul a := by obtain ⟨x, rfl⟩ := rep a; rw [← c_zero, ← c_mul, Int.zero_mul]
  mul_zero a := by obtain ⟨x, rfl⟩ := rep a; rw [← c_zero, ← c_mul, Int.mul_zero]
  pow_zero a := rfl
  pow_succ a n := rfl
  ofNat_succ a := by
    show c p ((a + 1 : Nat) : Int) = c p (a : Int) + c p ((1 : Nat) : Int)
    rw [← c_add]; rfl
  neg_add_cancel a := by obtain ⟨x, rfl⟩ := rep a; rw [← c_neg, ← c_add, Int.add_left_neg]; rfl
  sub_eq_add_neg a b := by obtain ⟨x, rfl⟩ := rep a; obtain ⟨y, rfl⟩ := rep b; rw [← c_neg, ← c_add, ← c_sub, Int.sub_eq_add_neg]
  neg_zsmul i a := by
    obtain ⟨x, rfl⟩ := rep a
    show c p (-i) * c p x = -(c p i * c p x)
    rw [← c_mul, ← c_mul, ← c_neg, Int.neg_mul]
  intCast_neg i := by show c p (-i) = - c p i; exact c_neg i
  mul_comm a b := by obtain ⟨x, rfl⟩ := rep a; obtain ⟨y, rfl⟩ := rep b; rw [← c_mul, ← c_mul, Int.mul_comm]
theorem eq_zero {x : Int} : c p x = 0 ↔ x % p = 0 := by
  rw [← c_zero, c_eq]; simp
theorem v_zero : (0 : Z p).v = 0 := by show (0 : Int) % p = 0; simp
end Z
def primes : List Nat := [3, 5, 7, 11, 13, 17, 19, 23, 29, 31]
class Pr (p : Nat) : Prop where
  mem : p ∈ primes
theorem undo_ok : ∀ p ∈ primes, ∀ x < p, x ≠ 0 → x * Rb.undo p x % p = 1 := by decide +kernel
theorem undo_lt : ∀ p ∈ primes, ∀ x < p, Rb.undo p x < p := by decide +kernel
theorem undo_zero : ∀ p ∈ primes, Rb.undo p 0 = 0 := by decide +kernel
theorem primeOk_iff (p : Nat) : Wrrayb.primeOk p = true ↔ p ∈ primes := by
  by_cases h : p ≤ 31
  · have : ∀ q < 32, (Wrrayb.primeOk q = true ↔ q ∈ primes) := by decide +kernel
    exact this p (by omega)
  · constructor
    · intro e
      rw [Wrrayb.primeOk, Bool.and_eq_true, Bool.and_eq_true] at e
      have := of_decide_eq_true e.2.1
      unfold Wrrayb.TOP at this
      omega
    · intro e
      simp [primes] at e
      rcases e with e | e | e | e | e | e | e | e | e | e <;> omega
section
variable {p : Nat} [P : Pr p]
theorem p_ge : 3 ≤ p := by have := P.mem; simp [primes] at this; omega
theorem p_le : p ≤ 31 := by have := P.mem; simp [primes] at this; omega
theorem p_pos : 0 < (p : Int) := by have := p_ge (p := p); omega
namespace Z
theorem v_nonneg (a : Z p) : 0 ≤ a.v := by rw [← a.ok]; exact Int.emod_nonneg _ (by have := p_pos (p := p); omega)
theorem v_lt (a : Z p) : a.v < p := by rw [← a.ok]; exact Int.emod_lt_of_pos _ p_pos
instance : Inv (Z p) := ⟨fun a => c p (Rb.undo p a.v.toNat)⟩
instance : Div (Z p) := ⟨fun a b => a * b⁻¹⟩
def zpw (a : Z p) : Int → Z p
  | .ofNat n => a ^ n
  | .negSucc n => (a ^ (n + 1))⁻¹
instance : HPow (Z p) Int (Z p) := ⟨zpw⟩
theorem mul_inv {a : Z p} (h : a ≠ 0) : a * a⁻¹ = 1 := by
  have h1 := v_nonneg a
  have h2 := v_lt a
  have h3 : a.v.toNat ≠ 0 := fun e => h (ext (by rw [v_zero]; omega))
  have := undo_ok p P.mem a.v.toNat (by omega) h3
  have e : (a.v.toNat : Int) = a.v := Int.toNat_of_nonneg h1
  show a * c p (Rb.undo p a.v.toNat) = 1
  rw [← c_v a, ← c_mul]
  show c p _ = c p 1
  rw [c_eq]
  rw [v_c]
  have e2 : a.v % p = a.v := a.ok
  rw [e2, ← e]
  simp only [Int.toNat_natCast]
  have h4 : (1 : Int) % p = 1 := Int.emod_eq_of_lt (by omega) (by have := p_ge (p := p); omega)
  rw [h4]
  exact_mod_cast this
theorem inv_zero : (0 : Z p)⁻¹ = 0 := by
  show c p (Rb.undo p (0 : Z p).v.toNat) = 0
  rw [v_zero]
  show c p ((Rb.undo p 0 : Nat) : Int) = 0
  rw [undo_zero p P.mem]; rfl
theorem zero_ne_one : (0 : Z p) ≠ 1 := fun h => by
  have e : (0 : Int) % p = 1 % p := c_eq.mp h
  rw [Int.emod_eq_of_lt (a := 1) (by omega) (by have := p_ge (p := p); omega)] at e
  simp at e
theorem inv_inv_ (a : Z p) : (a⁻¹)⁻¹ = a := by
  by_cases h : a = 0
  · subst h; rw [inv_zero, inv_zero]
  · have h1 := mul_inv h
    have h2 : a⁻¹ ≠ 0 := fun e => by
      rw [e] at h1
      exact zero_ne_one ((Lean.Grind.Semiring.mul_zero a).symm.trans h1)
    have h3 := mul_inv h2
    grind
theorem one_inv : (1 : Z p)⁻¹ = 1 := by
  have := mul_inv (p := p) (a := 1) (fun h => zero_ne_one h.symm)
  grind
instance : Lean.Grind.Field (Z p) where
  div_eq_mul_inv a b := rfl
  zero_ne_one := zero_ne_one
  inv_zero := inv_zero
  mul_inv_cancel := mul_inv
  zpow_zero a := rfl
  zpow_succ a n := rfl
  zpow_neg a n := by
    match n with
    | .ofNat 0 => exact one_inv.symm
    | .ofNat (n + 1) => rfl
    | .negSucc n => exact (inv_inv_ _).symm
end Z
end
end Pb
end
section
set_option Elab.async false
set_option linter.all false
set_option maxRecDepth 100000
set_option maxHeartbeats 1000000
namespace Pb
open Z
instance {p : Nat} : DecidableEq (Z p) := fun a b => decidable_of_iff (a.v = b.v) ⟨Z.ext, congrArg Z.v⟩
def zr (p : Nat) (v : List Nat) : List (Z p) := v.map fun (x : Nat) => c p (x : Int)
def zi (p : Nat) (v : List Int) : List (Z p) := v.map (c p)
def lift {p : Nat} (l : List (Z p)) : List Int := l.map (·.v)
def leadZ {p : Nat} : List (Z p) → Z p
  | [] => 0
  | a :: l => if a = 0 then leadZ l else a
theorem zi_lift {p : Nat} (l : List (Z p)) : zi p (lift l) = l := by
  induction l with
  | nil => rfl
  | cons a l ih =>
    show c p a.v :: zi p (lift l) = _
    rw [c_v, ih]
section
variable {p : Nat} [P : Pr p]
def formZ (l : List (Z p)) : List (Z p) := l.map (· * (leadZ l)⁻¹)
theorem c_nat_v (x : Nat) : (c p (x : Int)).v = ((x % p : Nat) : Int) := by
  rw [v_c]; exact_mod_cast rfl
theorem c_nat_zero {x : Nat} : c p (x : Int) = 0 ↔ x % p = 0 := by
  rw [eq_zero]; omega
theorem lead_v (v : List Nat) : ((Rb.lead p v : Nat) : Int) = (leadZ (zr p v)).v := by
  unfold Rb.lead Rb.reduced
  induction v with
  | nil => simp [zr, leadZ, v_zero]
  | cons x v ih =>
    show _ = (if c p (x : Int) = 0 then leadZ (zr p v) else c p (x : Int)).v
    rw [List.map_cons, List.find?_cons]
    by_cases h : x % p = 0
    · rw [if_pos (c_nat_zero.mpr h)]
      simp only [h, bne_self_eq_false]
      exact ih
    · rw [if_neg (fun e => h (c_nat_zero.mp e)), c_nat_v]
      have : (x % p != 0) = true := by simp [h]
      rw [this]; rfl
theorem inv_v (a : Z p) : (a⁻¹).v = ((Rb.undo p a.v.toNat : Nat) : Int) := by
  show (c p (Rb.undo p a.v.toNat : Nat)).v = _
  rw [c_nat_v, Nat.mod_eq_of_lt (undo_lt p P.mem _ (by have := v_nonneg a; have := v_lt a; omega))]
theorem form_v (v : List Nat) : WrraybNeutral.rowT (Rb.form p v) = lift (formZ (zr p v)) := by
  have e : (Rb.undo p (Rb.lead p v) : Nat) = (((leadZ (zr p v))⁻¹).v) := by
    rw [inv_v, ← lead_v]; simp
  unfold Rb.form formZ lift zr WrraybNeutral.rowT
  simp only [List.map_map]
  refine List.map_congr_left fun x _ => ?_
  show ((x % p * Rb.undo p (Rb.lead p v) % p : Nat) : Int) = (c p ((c p (x : Int)).v * ((leadZ (zr p v))⁻¹).v)).v
  rw [v_c, ← e, c_nat_v]
  exact_mod_cast rfl
theorem leadZ_ne {l : List (Z p)} : leadZ l ≠ 0 ↔ ∃ a ∈ l, a ≠ 0 := by
  induction l with
  | nil => simp [leadZ]
  | cons a l ih =>
    unfold leadZ
    split
    · rename_i h
      rw [ih]; simp [h]
    · rename_i h
      simp [h]
theorem isZero_lead (v : List Nat) : (!Rb.isZero p v) = decide (leadZ (zr p v) ≠ 0) := by
  have : Rb.isZero p v = true ↔ leadZ (zr p v) = 0 := by
    unfold Rb.isZero
    induction v with
    | nil => simp [zr, leadZ]
    | cons x v ih =>
      show _ ↔ (if c p (x : Int) = 0 then leadZ (zr p v) else c p (x : Int)) = 0
      rw [List.all_cons, Bool.and_eq_true, ih]
      by_cases h : x % p = 0
      · rw [if_pos (c_nat_zero.mpr h)]; simp [h]
      · rw [if_neg (fun e => h (c_nat_zero.mp e))]
        simp [h, c_nat_zero]
  by_cases h : leadZ (zr p v) = 0
  · rw [this.mpr h]; simp [h]
  · have : Rb.isZero p v = false := by
      cases e : Rb.isZero p v with
      | false => rfl
      | true => exact (h (this.mp e)).elim
    rw [this]; simp [h]
theorem isPoint_eq (x : List Nat) : Wrrayb.isPoint p x = (decide (x.length = 3) && decide (leadZ (zr p x) ≠ 0)) := by
  unfold Wrrayb.isPoint
  rw [isZero_lead]
  congr 1
theorem leadZ_scale {k : Z p} (hk : k ≠ 0) (l : List (Z p)) : leadZ (l.map (k * ·)) = k * leadZ l := by
  induction l with
  | nil => simp [leadZ]; grind
  | cons a l ih =>
    simp only [List.map_cons, leadZ]
    by_cases h : a = 0
    · rw [if_pos (show k * a = 0 by grind), if_pos h, ih]
    · rw [if_neg (show k * a ≠ 0 by grind), if_neg h]
theorem formZ_scale {k : Z p} (hk : k ≠ 0) (l : List (Z p)) : formZ (l.map (k * ·)) = formZ l := by
  unfold formZ
  rw [leadZ_scale hk, List.map_map]
  refine List.map_congr_left fun a _ => ?_
  show (k * a) * (k * leadZ l)⁻¹ = a * (leadZ l)⁻¹
  by_cases h : leadZ l = 0
  · have e : k * leadZ l = 0 := by grind
    rw [e, h, inv_zero]; grind
  · grind
theorem len3 {α : Type} {l : List α} (h : l.length = 3) : ∃ a b d, l = [a, b, d] := by
  match l, h with
  | [a, b, d], _ => exact ⟨a, b, d, rfl⟩
end
end Pb
end
section
set_option Elab.async false
set_option linter.all false
set_option maxRecDepth 100000
set_option maxHeartbeats 1000000
namespace Pb
open WrraybNeutral (nats told)
open Wrrayb (Answer primeOk isPoint isConic orNo smooth)
open Rb (isMap)
abbrev gate (b : Bool) (a : Answer) : List Int := told (if b = true then a else .no (-1))
theorem sp_conic (p : Int) (a b c d e : List Int) : PyWrrayb.conic p a b c d e = gate (primeOk p.toNat && [nats a, nats b, nats c, nats d, nats e].all (fun x => isPoint p.toNat x)) (orNo (Rb.conic p.toNat [nats a, nats b, nats c, nats d, nats e])) := rfl
end Pb
end
section
set_option Elab.async false
set_option linter.all false
set_option maxRecDepth 100000
set_option maxHeartbeats 1000000
namespace Pb
open Z
def az {p : Nat} (l : List (Z p)) (i : Nat) : Z p := l.getD i 0
def dotZ {p : Nat} (l m : List (Z p)) : Z p := (List.zipWith (· * ·) l m).foldr (· + ·) 0
def joinZ {p : Nat} (x y : List (Z p)) : List (Z p) := [az x 1 * az y 2 - az x 2 * az y 1, az x 2 * az y 0 - az x 0 * az y 2, az x 0 * az y 1 - az x 1 * az y 0]
def rowZ {p : Nat} (m : List (Z p)) (i : Nat) : List (Z p) := (m.drop (3 * i)).take 3
def applyZ {p : Nat} (m x : List (Z p)) : List (Z p) := [dotZ (rowZ m 0) x, dotZ (rowZ m 1) x, dotZ (rowZ m 2) x]
def cofZ {p : Nat} (m : List (Z p)) : List (List (Z p)) := [joinZ (rowZ m 1) (rowZ m 2), joinZ (rowZ m 2) (rowZ m 0), joinZ (rowZ m 0) (rowZ m 1)]
def adjZ {p : Nat} (m : List (Z p)) : List (Z p) := (List.range 3).flatMap fun i => (cofZ m).map fun r => az r i
def detZ {p : Nat} (m : List (Z p)) : Z p := dotZ (rowZ m 0) (joinZ (rowZ m 1) (rowZ m 2))
def monZ {p : Nat} (x : List (Z p)) : List (Z p) := [az x 0 * az x 0, az x 1 * az x 1, az x 2 * az x 2, az x 1 * az x 2, az x 0 * az x 2, az x 0 * az x 1]
def valZ {p : Nat} (k x : List (Z p)) : Z p := dotZ k (monZ x)
section
variable {p : Nat}
theorem az_zr (v : List Nat) (i : Nat) : az (zr p v) i = c p (Rb.at_ v i : Nat) := by
  unfold az zr Rb.at_
  rw [List.getD_eq_getElem?_getD, List.getD_eq_getElem?_getD, List.getElem?_map]
  cases v[i]? <;> rfl
theorem c_nmod (x : Nat) : c p ((x % p : Nat) : Int) = c p (x : Int) := by
  rw [c_eq, Int.natCast_emod, Int.emod_emod_of_dvd _ (Int.dvd_refl _)]
theorem c_nadd (x y : Nat) : c p ((x + y : Nat) : Int) = c p (x : Int) + c p (y : Int) := by rw [Int.natCast_add, c_add]
theorem c_nmul (x y : Nat) : c p ((x * y : Nat) : Int) = c p (x : Int) * c p (y : Int) := by rw [Int.natCast_mul, c_mul]
theorem zr_cons (a : Nat) (l : List Nat) : zr p (a :: l) = c p (a : Int) :: zr p l := rfl
theorem zr_nil : zr p [] = [] := rfl
end
section
variable {p : Nat} [P : Pr p]
theorem c_p : c p (p : Int) = 0 := by rw [eq_zero]; exact Int.emod_self
theorem c_less (x y : Nat) : c p (Rb.less p x y : Nat) = c p (x : Int) - c p (y : Int) := by
  have hp := p_ge (p := p)
  unfold Rb.less Rb.neg
  have h : y % p < p := Nat.mod_lt _ (by omega)
  have e : ((p - y % p : Nat) : Int) = (p : Int) - ((y % p : Nat) : Int) := by omega
  rw [c_nmod, c_nadd, c_nmod, e, c_sub, c_p, c_nmod]
  grind
theorem c_neg_ (y : Nat) : c p (Rb.neg p y : Nat) = - c p (y : Int) := by
  have hp := p_ge (p := p)
  unfold Rb.neg
  have h : y % p < p := Nat.mod_lt _ (by omega)
  have e : ((p - y % p : Nat) : Int) = (p : Int) - ((y % p : Nat) : Int) := by omega
  rw [c_nmod, e, c_sub, c_p, c_nmod]
  grind
theorem lead3 {x y z : Z p} : leadZ [x, y, z] = 0 ↔ x = 0 ∧ y = 0 ∧ z = 0 := by
  constructor
  · intro h
    have : ¬ ∃ a ∈ [x, y, z], a ≠ 0 := fun e => leadZ_ne.mpr e h
    simp at this
    exact ⟨this.1, this.2.1, this.2.2⟩
  · rintro ⟨rfl, rfl, rfl⟩; simp [leadZ]
end
end Pb
end
section
set_option Elab.async false
set_option linter.all false
set_option maxRecDepth 100000
set_option maxHeartbeats 1000000
namespace Pb
structure M3 (α : Type) where
  a : α
  b : α
  c : α
  d : α
  e : α
  f : α
  g : α
  h : α
  i : α
namespace M3
section
variable {α : Type} [Lean.Grind.Field α]
def mul (m n : M3 α) : M3 α := ⟨m.a * n.a + m.b * n.d + m.c * n.g, m.a * n.b + m.b * n.e + m.c * n.h, m.a * n.c + m.b * n.f + m.c * n.i,
  m.d * n.a + m.e * n.d + m.f * n.g, m.d * n.b + m.e * n.e + m.f * n.h, m.d * n.c + m.e * n.f + m.f * n.i,
  m.g * n.a + m.h * n.d + m.i * n.g, m.g * n.b + m.h * n.e + m.i * n.h, m.g * n.c + m.h * n.f + m.i * n.i⟩
def one : M3 α := ⟨1, 0, 0, 0, 1, 0, 0, 0, 1⟩
def sc (k : α) (m : M3 α) : M3 α := ⟨k * m.a, k * m.b, k * m.c, k * m.d, k * m.e, k * m.f, k * m.g, k * m.h, k * m.i⟩
def add (m n : M3 α) : M3 α := ⟨m.a + n.a, m.b + n.b, m.c + n.c, m.d + n.d, m.e + n.e, m.f + n.f, m.g + n.g, m.h + n.h, m.i + n.i⟩
def det (m : M3 α) : α := m.a * (m.e * m.i - m.f * m.h) + m.b * (m.f * m.g - m.d * m.i) + m.c * (m.d * m.h - m.e * m.g)
def tr (m : M3 α) : α := m.a + m.e + m.i
def c2 (m : M3 α) : α := m.e * m.i - m.f * m.h + m.a * m.i - m.c * m.g + m.a * m.e - m.b * m.d
theorem ext {m n : M3 α} (h1 : m.a = n.a) (h2 : m.b = n.b) (h3 : m.c = n.c) (h4 : m.d = n.d) (h5 : m.e = n.e) (h6 : m.f = n.f) (h7 : m.g = n.g) (h8 : m.h = n.h) (h9 : m.i = n.i) : m = n := by
  cases m; cases n; simp_all
theorem mul_assoc (m n k : M3 α) : mul (mul m n) k = mul m (mul n k) := by
  apply ext <;> simp only [mul] <;> grind
theorem one_mul (m : M3 α) : mul one m = m := by apply ext <;> simp only [mul, one] <;> grind
theorem mul_one (m : M3 α) : mul m one = m := by apply ext <;> simp only [mul, one] <;> grind
def comb (m : M3 α) (v : α × α × α) : M3 α := add (sc v.1 one) (add (sc v.2.1 m) (sc v.2.2 (mul m m)))
def nxt (m : M3 α) (v : α × α × α) : α × α × α := (det m * v.2.2, v.1 - c2 m * v.2.2, v.2.1 + tr m * v.2.2)
def co (m : M3 α) : Nat → α × α × α
  | 0 => (1, 0, 0)
  | n + 1 => nxt m (co m n)
end
end M3
section
variable {p : Nat} [P : Pr p]
open Z
end
end Pb
end
section
set_option Elab.async false
set_option linter.all false
set_option maxRecDepth 100000
noncomputable section
namespace Pb
open L2 Dn
open PySem.W (WData)
def gd_ODD_PRIMES : WData := .tuple (([3, 5, 7, 11, 13, 17, 19, 23, 29, 31] : List Int).map .int)
def d_first_not_zero : List WData → Option WData := body 3
  (sSeq (sFor 2 (dVar 1)
  (sIf (dTest (dOp hNe (dOp hMod (dVar 2) (dVar 0)) (dC (.int 0))))
  (sRet (dOp hMod (dVar 2) (dVar 0)))
  sNil))
  (sRet (dC (.int 0))))
def d_are_triples : List WData → Option WData := body 3
  (sRet (dCall fAll (dCons (dL (dLc 2 [2] (dVar 1) dYes (dAndV (dOp hEq (dCall fLen (dCons (dVar 2) dNil)) (dC (.int 3))) (dOp hNe (dCall d_first_not_zero (dCons (dVar 0) (dCons (dVar 2) dNil))) (dC (.int 0)))))) dNil)))
def d_inverse : List WData → Option WData := body 4
  (sSeq (sSet 2 (dC (.int 1)))
  (sSeq (sForR 3 (dCons (dOp hSub (dVar 0) (dC (.int 2))) dNil)
  (sSet 2 (dOp hMod (dOp hMul (dVar 2) (dVar 1)) (dVar 0))))
  (sRet (dVar 2))))
def d_form_of : List WData → Option WData := body 4
  (sSeq (sSet 2 (dCall d_inverse (dCons (dVar 0) (dCons (dCall d_first_not_zero (dCons (dVar 0) (dCons (dVar 1) dNil))) dNil))))
  (sRet (dL (dLc 3 [3] (dVar 1) dYes (dOp hMod (dOp hMul (dVar 2) (dVar 3)) (dVar 0))))))
def d_mixed : List WData → Option WData := body 6
  (sRet (dL (dLcR 5 [5] (dCons (dCall fLen (dCons (dVar 2) dNil)) dNil) dYes (dOp hMod (dOp hAdd (dOp hMul (dVar 1) (dOp hIx (dVar 2) (dVar 5))) (dOp hMul (dVar 3) (dOp hIx (dVar 4) (dVar 5)))) (dVar 0)))))
def d_value_at : List WData → Option WData := body 4
  (sSeq (sSet 3 (dOp hAdd (dOp hAdd (dOp hMul (dOp hMul (dOp hIx (dVar 1) (dC (.int 0))) (dOp hIx (dVar 2) (dC (.int 0)))) (dOp hIx (dVar 2) (dC (.int 0)))) (dOp hMul (dOp hMul (dOp hIx (dVar 1) (dC (.int 1))) (dOp hIx (dVar 2) (dC (.int 1)))) (dOp hIx (dVar 2) (dC (.int 1))))) (dOp hMul (dOp hMul (dOp hIx (dVar 1) (dC (.int 2))) (dOp hIx (dVar 2) (dC (.int 2)))) (dOp hIx (dVar 2) (dC (.int 2))))))
  (sRet (dOp hMod (dOp hAdd (dOp hAdd (dOp hAdd (dVar 3) (dOp hMul (dOp hMul (dOp hIx (dVar 1) (dC (.int 3))) (dOp hIx (dVar 2) (dC (.int 1)))) (dOp hIx (dVar 2) (dC (.int 2))))) (dOp hMul (dOp hMul (dOp hIx (dVar 1) (dC (.int 4))) (dOp hIx (dVar 2) (dC (.int 0)))) (dOp hIx (dVar 2) (dC (.int 2))))) (dOp hMul (dOp hMul (dOp hIx (dVar 1) (dC (.int 5))) (dOp hIx (dVar 2) (dC (.int 0)))) (dOp hIx (dVar 2) (dC (.int 1))))) (dVar 0))))
def d_narrowed : List WData → Option WData := body 8
  (sSeq (sSet 3 (dL (dLc 6 [6] (dVar 1) dYes (dCall d_value_at (dCons (dVar 0) (dCons (dVar 6) (dCons (dVar 2) dNil)))))))
  (sSeq (sSet 4 (dCall d_first_not_zero (dCons (dVar 0) (dCons (dVar 3) dNil))))
  (sSeq (sIf (dTest (dOp hEq (dVar 4) (dC (.int 0))))
  (sRet (dVar 1))
  sNil)
  (sSeq (sSet 5 (dMeth hIdxI (dVar 3) (dCons (dVar 4) dNil)))
  (sRet (dL (dLcR 7 [7] (dCons (dCall fLen (dCons (dVar 1) dNil)) dNil) (dTest (dOp hNe (dVar 7) (dVar 5))) (dCall d_mixed (dCons (dVar 0) (dCons (dVar 4) (dCons (dOp hIx (dVar 1) (dVar 7)) (dCons (dNeg (dOp hIx (dVar 3) (dVar 7))) (dCons (dOp hIx (dVar 1) (dVar 5)) dNil)))))))))))))
def d_conic : List WData → Option WData := body 9
  (sSeq (sIf (dNot (dAnd (dTest (dOp (hIn false) (dVar 0) (dC gd_ODD_PRIMES))) (dTest (dCall d_are_triples (dCons (dVar 0) (dCons (dL (dCons (dVar 1) (dCons (dVar 2) (dCons (dVar 3) (dCons (dVar 4) (dCons (dVar 5) dNil)))))) dNil))))))
  (sRet (dL (dCons (dNeg (dC (.int 1))) dNil)))
  sNil)
  (sSeq (sSet 6 (dL (dLcR 8 [8] (dCons (dC (.int 6)) dNil) dYes (dL (dCat (dL (dCat (dL (dRep (dCons (dC (.int 0)) dNil) (dVar 8))) (dL (dCons (dC (.int 1)) dNil)))) (dL (dRep (dCons (dC (.int 0)) dNil) (dOp hSub (dC (.int 5)) (dVar 8)))))))))
  (sSeq (sFor 7 (dL (dCons (dVar 1) (dCons (dVar 2) (dCons (dVar 3) (dCons (dVar 4) (dCons (dVar 5) dNil))))))
  (sSet 6 (dCall d_narrowed (dCons (dVar 0) (dCons (dVar 6) (dCons (dVar 7) dNil))))))
  (sSeq (sIf (dTest (dOp hGt (dCall fLen (dCons (dVar 6) dNil)) (dC (.int 1))))
  (sRet (dL (dCons (dNeg (dC (.int 2))) dNil)))
  sNil)
  (sRet (dL (dCat (dL (dCons (dC (.int 0)) dNil)) (dCall d_form_of (dCons (dVar 0) (dCons (dOp hIx (dVar 6) (dC (.int 0))) dNil))))))))))
end Pb
end
end
section
set_option Elab.async false
set_option linter.all false
set_option maxRecDepth 100000
set_option maxHeartbeats 1000000
namespace Pb
open L2 Dn Z
open PySem.W (WData)
open WrraybNeutral (nats told rowT)
def oddPrimes : List Int := [3, 5, 7, 11, 13, 17, 19, 23, 29, 31]
def iL (l : List Int) : WData := .list (l.map .int)
def rL (l : List (List Int)) : WData := .list (l.map iL)
theorem hIx_iL (x : List Int) (i : Int) : hIx (iL x) (.int i) = atI (x.map .int) i := hIx_l _ _
theorem hIx_rL (x : List (List Int)) (i : Int) : hIx (rL x) (.int i) = atI (x.map iL) i := hIx_l _ _
theorem fLen_iL (x : List Int) : fLen [iL x] = some (.int (x.length : Nat)) := by
  show some (WData.int ((x.map WData.int).length : Nat)) = _
  rw [List.length_map]
theorem fLen_rL (x : List (List Int)) : fLen [rL x] = some (.int (x.length : Nat)) := by
  show some (WData.int ((x.map iL).length : Nat)) = _
  rw [List.length_map]
theorem cat_iL {a b : List Int} (h : a.length + b.length ≤ 16777216) : cat2 (iL a) (iL b) = some ((a ++ b).map .int) := by
  unfold iL
  rw [cat2_ll (by rw [List.length_map, List.length_map]; exact h), List.map_append]
theorem cat_rL {a b : List (List Int)} (h : a.length + b.length ≤ 16777216) : cat2 (rL a) (rL b) = some ((a ++ b).map iL) := by
  unfold rL
  rw [cat2_ll (by rw [List.length_map, List.length_map]; exact h), List.map_append]
theorem cut_iL (lo hi : Nat) (x : List Int) : cut lo hi (iL x) = some (((x.drop lo).take (hi - lo)).map .int) := by
  unfold iL
  rw [cut_l, List.map_take, List.map_drop]
theorem hEqL_iL (a b : List Int) : hEqL (iL a) (iL b) = some (.bool (decide (a = b))) := hEqL_ll a b
theorem foldL (x : List Int) : WData.list (x.map .int) = iL x := rfl
theorem foldR (x : List (List Int)) : WData.list (x.map iL) = rL x := rfl
theorem rfold1 (a : List Int) : WData.list [iL a] = rL [a] := rfl
theorem rfold2 (a b : List Int) : WData.list [iL a, iL b] = rL [a, b] := rfl
theorem rfold3 (a b c : List Int) : WData.list [iL a, iL b, iL c] = rL [a, b, c] := rfl
theorem rfold4 (a b c d : List Int) : WData.list [iL a, iL b, iL c, iL d] = rL [a, b, c, d] := rfl
theorem rfold5 (a b c d e : List Int) : WData.list [iL a, iL b, iL c, iL d, iL e] = rL [a, b, c, d, e] := rfl
theorem rfold8 (a b c d e f g h : List Int) : WData.list [iL a, iL b, iL c, iL d, iL e, iL f, iL g, iL h] = rL [a, b, c, d, e, f, g, h] := rfl
theorem foldc (a : Int) (x : List Int) : WData.list (.int a :: x.map .int) = iL (a :: x) := rfl
theorem foldcc (a b : Int) (x : List Int) : WData.list (.int a :: .int b :: x.map .int) = iL (a :: b :: x) := rfl
theorem fold0 : WData.list [] = iL [] := rfl
theorem fold1 (a : Int) : WData.list [.int a] = iL [a] := rfl
theorem fold2 (a b : Int) : WData.list [.int a, .int b] = iL [a, b] := rfl
theorem fold3 (a b c : Int) : WData.list [.int a, .int b, .int c] = iL [a, b, c] := rfl
theorem fold6 (a b c d e f : Int) : WData.list [.int a, .int b, .int c, .int d, .int e, .int f] = iL [a, b, c, d, e, f] := rfl
theorem fold9 (a b c d e f g h i : Int) : WData.list [.int a, .int b, .int c, .int d, .int e, .int f, .int g, .int h, .int i] = iL [a, b, c, d, e, f, g, h, i] := rfl
theorem lcL_iL {i : Nat} {ρ : Rho} {c : DT} {f : DE} {x : List Int} (h : x.length < 16777216) : lcL i ρ c f (iL x) = lcGo i ρ c f (x.map .int) := lcL_l (by rw [List.length_map]; exact h)
theorem lcL_rL {i : Nat} {ρ : Rho} {c : DT} {f : DE} {x : List (List Int)} (h : x.length < 16777216) : lcL i ρ c f (rL x) = lcGo i ρ c f (x.map iL) := lcL_l (by rw [List.length_map]; exact h)
theorem oddPrimes_pr {p : Int} (h : p ∈ oddPrimes) : ∃ q : Nat, p = q ∧ Pr q := by
  have : ∀ p ∈ oddPrimes, p = (p.toNat : Int) ∧ p.toNat ∈ primes := by decide
  exact ⟨p.toNat, (this p h).1, ⟨(this p h).2⟩⟩
theorem pr_odd {p : Nat} (h : p ∈ primes) : (p : Int) ∈ oddPrimes := by
  have : ∀ p ∈ primes, (p : Int) ∈ oddPrimes := by decide
  exact this p h
theorem odd_iff (p : Int) : p ∈ oddPrimes ↔ Wrrayb.primeOk p.toNat = true := by
  rw [primeOk_iff]
  constructor
  · intro h
    obtain ⟨q, rfl, hq⟩ := oddPrimes_pr h
    exact hq.mem
  · intro h
    have := pr_odd h
    have h0 : 0 ≤ p := by
      have : ∀ q ∈ primes, 0 < q := by decide
      have := this _ h
      omega
    rw [Int.toNat_of_nonneg h0] at this
    exact this
theorem hIn_p (neg : Bool) (p : Int) : hIn neg (.int p) gd_ODD_PRIMES = some (.bool (if neg then !decide (p ∈ oddPrimes) else decide (p ∈ oddPrimes))) := hInT neg p oddPrimes
def Bd (x : List Int) : Prop := ∀ a ∈ x, -18446744073709551616 < a ∧ a < 18446744073709551616
theorem Bd.mul {x : List Int} (h : Bd x) {a : Int} (ha : a ∈ x) (b : Int) : cMul a b = true := cMul_l (h a ha).1 (h a ha).2
theorem Bd.mulR {x : List Int} (h : Bd x) {a : Int} (ha : a ∈ x) (b : Int) : cMul b a = true := cMul_r (h a ha).1 (h a ha).2
section
variable {p : Nat} [P : Pr p]
theorem fnz_loop (L : Option Sl) : ∀ (xs : List Int) (w : Option Sl),
    (leadZ (zi p xs) = 0 → ∃ w', loop 2 (sIf (dTest (dOp hNe (dOp hMod (dVar 2) (dVar 0)) (dC (.int 0)))) (sRet (dOp hMod (dVar 2) (dVar 0))) sNil) (xs.map .int) [some (.val (.int p)), L, w] = some (.nx [some (.val (.int p)), L, w'])) ∧
    (leadZ (zi p xs) ≠ 0 → loop 2 (sIf (dTest (dOp hNe (dOp hMod (dVar 2) (dVar 0)) (dC (.int 0)))) (sRet (dOp hMod (dVar 2) (dVar 0))) sNil) (xs.map .int) [some (.val (.int p)), L, w] = some (.rt (.int (leadZ (zi p xs)).v)))
  | [], w => ⟨fun _ => ⟨w, rfl⟩, fun h => (h rfl).elim⟩
  | x :: xs, w => by
    have ih := fnz_loop L xs (some (.val (.int x)))
    have hp := p_pos (p := p)
    have e : leadZ (zi p (x :: xs)) = if c p x = 0 then leadZ (zi p xs) else c p x := rfl
    rw [e]
    by_cases h : x % p = 0
    · rw [if_pos (eq_zero.mpr h)]
      simp only [loop, body, initR, sNil, sBreak, sCont, sSeq, sRet, sRetN, sIf, sSet, sOwn, sPut, sAug, sFor, sForT, sForR_eq, dVar, dC, dOp, hAdd_ii, hSub_ii, hMul_ii, hMod_ii, hDiv_ii, hLt_ii, hLe_ii, hGt_ii, hGe_ii, hEq_ii, hNe_ii, dNeg, hInT, hInL, hIx_l, hIx_t, dIxO, dTest, dAnd, dOr, dNot, dAndV, dOrV, dNotV, dIf, dNil, dCons, dL, dTup, dCall, fLen, dLc_eq, dYes, dCat_eq, freeze, wipeR, atc_0, atc_1, atc_2, atc_3, atc_4, atc_5, atc_6, atc_7, atc_8, List.map_cons, List.map_nil, List.length_cons, List.length_nil, List.replicate, List.cons_append, List.nil_append, List.append_nil, List.getElem?_cons_zero, List.getElem?_cons_succ, List.getElem?_nil, List.set_cons_zero, List.set_cons_succ, List.set_nil, Option.bind_some, Option.map_some, Option.bind_none, Option.map_none, if_true, if_false, Bool.false_eq_true, Nat.reduceAdd, Nat.reduceSub, List.length_map, intsOf_ints, Bool.not_true, Bool.not_false, decide_true, decide_false, Function.comp, cat2_ll, lcL_l, dMeth, dNew, dCut, dRep, dLcR_eq, fListOf_t, hp, h]
      exact ih
    · rw [if_neg (fun q => h (eq_zero.mp q))]
      refine ⟨fun q => (h (eq_zero.mp q)).elim, fun _ => ?_⟩
      simp only [loop, body, initR, sNil, sBreak, sCont, sSeq, sRet, sRetN, sIf, sSet, sOwn, sPut, sAug, sFor, sForT, sForR_eq, dVar, dC, dOp, hAdd_ii, hSub_ii, hMul_ii, hMod_ii, hDiv_ii, hLt_ii, hLe_ii, hGt_ii, hGe_ii, hEq_ii, hNe_ii, dNeg, hInT, hInL, hIx_l, hIx_t, dIxO, dTest, dAnd, dOr, dNot, dAndV, dOrV, dNotV, dIf, dNil, dCons, dL, dTup, dCall, fLen, dLc_eq, dYes, dCat_eq, freeze, wipeR, atc_0, atc_1, atc_2, atc_3, atc_4, atc_5, atc_6, atc_7, atc_8, List.map_cons, List.map_nil, List.length_cons, List.length_nil, List.replicate, List.cons_append, List.nil_append, List.append_nil, List.getElem?_cons_zero, List.getElem?_cons_succ, List.getElem?_nil, List.set_cons_zero, List.set_cons_succ, List.set_nil, Option.bind_some, Option.map_some, Option.bind_none, Option.map_none, if_true, if_false, Bool.false_eq_true, Nat.reduceAdd, Nat.reduceSub, List.length_map, intsOf_ints, Bool.not_true, Bool.not_false, decide_true, decide_false, Function.comp, cat2_ll, lcL_l, dMeth, dNew, dCut, dRep, dLcR_eq, fListOf_t, hp, h]
      rfl
theorem d_first_not_zero_eq (xs : List Int) : d_first_not_zero [.int p, iL xs] = some (.int (leadZ (zi p xs)).v) := by
  have ⟨h1, h2⟩ := fnz_loop (p := p) (some (.val (iL xs))) xs none
  simp only [d_first_not_zero, iL, body, initR, sNil, sBreak, sCont, sSeq, sRet, sRetN, sIf, sSet, sOwn, sPut, sAug, sFor, sForT, sForR_eq, dVar, dC, dOp, hAdd_ii, hSub_ii, hMul_ii, hMod_ii, hDiv_ii, hLt_ii, hLe_ii, hGt_ii, hGe_ii, hEq_ii, hNe_ii, dNeg, hInT, hInL, hIx_l, hIx_t, dIxO, dTest, dAnd, dOr, dNot, dAndV, dOrV, dNotV, dIf, dNil, dCons, dL, dTup, dCall, fLen, dLc_eq, dYes, dCat_eq, freeze, wipeR, atc_0, atc_1, atc_2, atc_3, atc_4, atc_5, atc_6, atc_7, atc_8, List.map_cons, List.map_nil, List.length_cons, List.length_nil, List.replicate, List.cons_append, List.nil_append, List.append_nil, List.getElem?_cons_zero, List.getElem?_cons_succ, List.getElem?_nil, List.set_cons_zero, List.set_cons_succ, List.set_nil, Option.bind_some, Option.map_some, Option.bind_none, Option.map_none, if_true, if_false, Bool.false_eq_true, Nat.reduceAdd, Nat.reduceSub, List.length_map, intsOf_ints, Bool.not_true, Bool.not_false, decide_true, decide_false, Function.comp, cat2_ll, lcL_l, dMeth, dNew, dCut, dRep, dLcR_eq, fListOf_t] at h1 h2 ⊢
  by_cases h : leadZ (zi p xs) = 0
  · obtain ⟨w', e⟩ := h1 h
    rw [e, h, v_zero]
  · rw [h2 h]
theorem v_ne {a : Z p} : a.v = 0 ↔ a = 0 := ⟨fun h => Z.ext (by rw [h, v_zero]), fun h => by rw [h, v_zero]⟩
theorem dec_v (a : Z p) : decide (a.v = 0) = decide (a = 0) := decide_eq_decide.mpr v_ne
def isN (p n : Nat) (x : List Int) : Bool := decide (x.length = n) && decide (leadZ (zi p x) ≠ 0)
theorem isN_len {p n : Nat} {x : List Int} (h : isN p n x = true) : x.length = n := of_decide_eq_true (Bool.and_eq_true_iff.mp h).1
theorem d_are_triples_eq (ls : List (List Int)) (hl : ls.length < 16777216) : d_are_triples [.int p, rL ls] = some (.bool (ls.all (isN p 3))) := by
  have e : lcGo 2 [some (.val (.int p)), some (.val (rL ls)), none] dYes (dAndV (dOp hEq (dCall fLen (dCons (dVar 2) dNil)) (dC (.int 3))) (dOp hNe (dCall d_first_not_zero (dCons (dVar 0) (dCons (dVar 2) dNil))) (dC (.int 0)))) (ls.map iL) = some (ls.map fun x => .bool (isN p 3 x)) := by
    refine lcGo_map iL _ fun x _ => ?_
    have e := d_first_not_zero_eq (p := p) x
    simp only [body, initR, sNil, sBreak, sCont, sSeq, sRet, sRetN, sIf, sSet, sOwn, sPut, sAug, sFor, sForT, sForR_eq, dVar, dC, dOp, hAdd_ii, hSub_ii, hMul_ii, hMod_ii, hDiv_ii, hLt_ii, hLe_ii, hGt_ii, hGe_ii, hEq_ii, hNe_ii, dNeg, hInT, hInL, hIx_iL, hIx_rL, fLen_iL, fLen_rL, cat_iL, cat_rL, cut_iL, hEqL_iL, rfold1, rfold2, rfold3, rfold4, rfold5, rfold8, foldc, foldcc, fold0, fold1, fold2, fold3, fold6, fold9, foldL, foldR, lcL_iL, lcL_rL, dIxO, dTest, dAnd, dOr, dNot, dAndV, dOrV, dNotV, dIf, dNil, dCons, dL, dTup, dCall, dLc_eq, dYes, dCat_eq, freeze, wipeR, atc_0, atc_1, atc_2, atc_3, atc_4, atc_5, atc_6, atc_7, atc_8, List.map_cons, List.map_nil, List.length_cons, List.length_nil, List.replicate, List.cons_append, List.nil_append, List.append_nil, List.getElem?_cons_zero, List.getElem?_cons_succ, List.getElem?_nil, List.set_cons_zero, List.set_cons_succ, List.set_nil, Option.bind_some, Option.map_some, Option.bind_none, Option.map_none, if_true, if_false, Bool.false_eq_true, Nat.reduceAdd, Nat.reduceSub, List.length_map, intsOf_ints, Bool.not_true, Bool.not_false, decide_true, decide_false, Function.comp, dMeth, dNew, dCut, dRep, dLcR_eq, fListOf_t, e, dec_v, isN]
    by_cases h : x.length = 3
    · have h' : ((x.length : Int) = 3) := by omega
      simp only [h', h, body, initR, sNil, sBreak, sCont, sSeq, sRet, sRetN, sIf, sSet, sOwn, sPut, sAug, sFor, sForT, sForR_eq, dVar, dC, dOp, hAdd_ii, hSub_ii, hMul_ii, hMod_ii, hDiv_ii, hLt_ii, hLe_ii, hGt_ii, hGe_ii, hEq_ii, hNe_ii, dNeg, hInT, hInL, hIx_l, hIx_t, dIxO, dTest, dAnd, dOr, dNot, dAndV, dOrV, dNotV, dIf, dNil, dCons, dL, dTup, dCall, fLen, dLc_eq, dYes, dCat_eq, freeze, wipeR, atc_0, atc_1, atc_2, atc_3, atc_4, atc_5, atc_6, atc_7, atc_8, List.map_cons, List.map_nil, List.length_cons, List.length_nil, List.replicate, List.cons_append, List.nil_append, List.append_nil, List.getElem?_cons_zero, List.getElem?_cons_succ, List.getElem?_nil, List.set_cons_zero, List.set_cons_succ, List.set_nil, Option.bind_some, Option.map_some, Option.bind_none, Option.map_none, if_true, if_false, Bool.false_eq_true, Nat.reduceAdd, Nat.reduceSub, List.length_map, intsOf_ints, Bool.not_true, Bool.not_false, decide_true, decide_false, Function.comp, cat2_ll, lcL_l, dMeth, dNew, dCut, dRep, dLcR_eq, fListOf_t]
      simp
    · have h' : ¬ ((x.length : Int) = 3) := by omega
      simp only [h', h, body, initR, sNil, sBreak, sCont, sSeq, sRet, sRetN, sIf, sSet, sOwn, sPut, sAug, sFor, sForT, sForR_eq, dVar, dC, dOp, hAdd_ii, hSub_ii, hMul_ii, hMod_ii, hDiv_ii, hLt_ii, hLe_ii, hGt_ii, hGe_ii, hEq_ii, hNe_ii, dNeg, hInT, hInL, hIx_l, hIx_t, dIxO, dTest, dAnd, dOr, dNot, dAndV, dOrV, dNotV, dIf, dNil, dCons, dL, dTup, dCall, fLen, dLc_eq, dYes, dCat_eq, freeze, wipeR, atc_0, atc_1, atc_2, atc_3, atc_4, atc_5, atc_6, atc_7, atc_8, List.map_cons, List.map_nil, List.length_cons, List.length_nil, List.replicate, List.cons_append, List.nil_append, List.append_nil, List.getElem?_cons_zero, List.getElem?_cons_succ, List.getElem?_nil, List.set_cons_zero, List.set_cons_succ, List.set_nil, Option.bind_some, Option.map_some, Option.bind_none, Option.map_none, if_true, if_false, Bool.false_eq_true, Nat.reduceAdd, Nat.reduceSub, List.length_map, intsOf_ints, Bool.not_true, Bool.not_false, decide_true, decide_false, Function.comp, cat2_ll, lcL_l, dMeth, dNew, dCut, dRep, dLcR_eq, fListOf_t]
      simp
  have e2 : ls.map (fun x => WData.bool (isN p 3 x)) = (ls.map (isN p 3)).map .bool := by rw [List.map_map]; rfl
  simp only [d_are_triples, body, initR, sNil, sBreak, sCont, sSeq, sRet, sRetN, sIf, sSet, sOwn, sPut, sAug, sFor, sForT, sForR_eq, dVar, dC, dOp, hAdd_ii, hSub_ii, hMul_ii, hMod_ii, hDiv_ii, hLt_ii, hLe_ii, hGt_ii, hGe_ii, hEq_ii, hNe_ii, dNeg, hInT, hInL, hIx_iL, hIx_rL, fLen_iL, fLen_rL, cat_iL, cat_rL, cut_iL, hEqL_iL, rfold1, rfold2, rfold3, rfold4, rfold5, rfold8, foldc, foldcc, fold0, fold1, fold2, fold3, fold6, fold9, foldL, foldR, lcL_iL, lcL_rL, dIxO, dTest, dAnd, dOr, dNot, dAndV, dOrV, dNotV, dIf, dNil, dCons, dL, dTup, dCall, dLc_eq, dYes, dCat_eq, freeze, wipeR, atc_0, atc_1, atc_2, atc_3, atc_4, atc_5, atc_6, atc_7, atc_8, List.map_cons, List.map_nil, List.length_cons, List.length_nil, List.replicate, List.cons_append, List.nil_append, List.append_nil, List.getElem?_cons_zero, List.getElem?_cons_succ, List.getElem?_nil, List.set_cons_zero, List.set_cons_succ, List.set_nil, Option.bind_some, Option.map_some, Option.bind_none, Option.map_none, if_true, if_false, Bool.false_eq_true, Nat.reduceAdd, Nat.reduceSub, List.length_map, intsOf_ints, Bool.not_true, Bool.not_false, decide_true, decide_false, Function.comp, dMeth, dNew, dCut, dRep, dLcR_eq, fListOf_t, hl, e, e2, fAll_b, List.all_map]
  rfl
def itp (p a : Int) : Nat → Int → Int
  | 0, r => r
  | n + 1, r => itp p a n (r * a % p)
theorem itp_mod (a : Int) : ∀ (n : Nat) (r : Int), itp p a n r = itp p (a % p) n r
  | 0, r => rfl
  | n + 1, r => by
    show itp p a n (r * a % p) = itp p (a % p) n (r * (a % p) % p)
    rw [itp_mod a n]
    congr 1
    rw [Int.mul_emod r (a % p), Int.emod_emod_of_dvd a (Int.dvd_refl _), ← Int.mul_emod]
theorem inv_loop (a : Int) (h0 : -18446744073709551616 < a) (h1 : a < 18446744073709551616) : ∀ (n : Nat) (lo r : Int) (w : Option Sl), ∃ w', loop 3 (sSet 2 (dOp hMod (dOp hMul (dVar 2) (dVar 1)) (dVar 0))) (rng lo n) [some (.val (.int p)), some (.val (.int a)), some (.val (.int r)), w] = some (.nx [some (.val (.int p)), some (.val (.int a)), some (.val (.int (itp p a n r))), w'])
  | 0, lo, r, w => ⟨w, rfl⟩
  | n + 1, lo, r, w => by
    have hp := p_pos (p := p)
    obtain ⟨w', ih⟩ := inv_loop a h0 h1 n (lo + 1) (r * a % p) (some (.val (.int lo)))
    refine ⟨w', ?_⟩
    have er : rng lo (n + 1) = .int lo :: rng (lo + 1) n := by
      unfold rng
      rw [List.range_succ_eq_map, List.map_cons, List.map_map]
      simp
      intro k _
      omega
    rw [er]
    simp only [loop, body, initR, sNil, sBreak, sCont, sSeq, sRet, sRetN, sIf, sSet, sOwn, sPut, sAug, sFor, sForT, sForR_eq, dVar, dC, dOp, hAdd_ii, hSub_ii, hMul_ii, hMod_ii, hDiv_ii, hLt_ii, hLe_ii, hGt_ii, hGe_ii, hEq_ii, hNe_ii, dNeg, hInT, hInL, hIx_l, hIx_t, dIxO, dTest, dAnd, dOr, dNot, dAndV, dOrV, dNotV, dIf, dNil, dCons, dL, dTup, dCall, fLen, dLc_eq, dYes, dCat_eq, freeze, wipeR, atc_0, atc_1, atc_2, atc_3, atc_4, atc_5, atc_6, atc_7, atc_8, List.map_cons, List.map_nil, List.length_cons, List.length_nil, List.replicate, List.cons_append, List.nil_append, List.append_nil, List.getElem?_cons_zero, List.getElem?_cons_succ, List.getElem?_nil, List.set_cons_zero, List.set_cons_succ, List.set_nil, Option.bind_some, Option.map_some, Option.bind_none, Option.map_none, if_true, if_false, Bool.false_eq_true, Nat.reduceAdd, Nat.reduceSub, List.length_map, intsOf_ints, Bool.not_true, Bool.not_false, decide_true, decide_false, Function.comp, cat2_ll, lcL_l, dMeth, dNew, dCut, dRep, dLcR_eq, fListOf_t, hp, cMul_r (i := r) (j := a) h0 h1]
    exact ih
theorem itp_undo : ∀ p ∈ primes, ∀ x < p, itp p x (p - 2) 1 = (Rb.undo p x : Nat) := by decide +kernel
theorem d_inverse_eq (a : Int) (h0 : -18446744073709551616 < a) (h1 : a < 18446744073709551616) : d_inverse [.int p, .int a] = some (.int ((c p a)⁻¹).v) := by
  have hp := p_pos (p := p)
  have hl := p_le (p := p)
  have hg := p_ge (p := p)
  obtain ⟨w', e⟩ := inv_loop (p := p) a h0 h1 (p - 2) 0 1 none
  have e2 : ((p : Int) - 2).toNat = p - 2 := by omega
  simp only [d_inverse, body, initR, sNil, sBreak, sCont, sSeq, sRet, sRetN, sIf, sSet, sOwn, sPut, sAug, sFor, sForT, sForR_eq, dVar, dC, dOp, hAdd_ii, hSub_ii, hMul_ii, hMod_ii, hDiv_ii, hLt_ii, hLe_ii, hGt_ii, hGe_ii, hEq_ii, hNe_ii, dNeg, hInT, hInL, hIx_l, hIx_t, dIxO, dTest, dAnd, dOr, dNot, dAndV, dOrV, dNotV, dIf, dNil, dCons, dL, dTup, dCall, fLen, dLc_eq, dYes, dCat_eq, freeze, wipeR, atc_0, atc_1, atc_2, atc_3, atc_4, atc_5, atc_6, atc_7, atc_8, List.map_cons, List.map_nil, List.length_cons, List.length_nil, List.replicate, List.cons_append, List.nil_append, List.append_nil, List.getElem?_cons_zero, List.getElem?_cons_succ, List.getElem?_nil, List.set_cons_zero, List.set_cons_succ, List.set_nil, Option.bind_some, Option.map_some, Option.bind_none, Option.map_none, if_true, if_false, Bool.false_eq_true, Nat.reduceAdd, Nat.reduceSub, List.length_map, intsOf_ints, Bool.not_true, Bool.not_false, decide_true, decide_false, Function.comp, cat2_ll, lcL_l, dMeth, dNew, dCut, dRep, dLcR_eq, fListOf_t, rgs_1 (j := (p : Int) - 2) (by omega) (by omega), e2, e]
  have ha := v_nonneg (c p a)
  have hb := v_lt (c p a)
  have := itp_undo p P.mem (c p a).v.toNat (by omega)
  rw [Int.toNat_of_nonneg ha] at this
  rw [itp_mod]
  show some (WData.int (itp p (c p a).v (p - 2) 1)) = _
  rw [this, inv_v]
theorem lc_scale (s : Int) (hs0 : 0 ≤ s) (hs1 : s < p) (L : Option Sl) : ∀ xs : List Int, lcGo 3 [some (.val (.int p)), L, some (.val (.int s)), none] dYes (dOp hMod (dOp hMul (dVar 2) (dVar 3)) (dVar 0)) (xs.map .int) = some ((xs.map fun x => s * x % p).map .int)
  | [] => rfl
  | x :: xs => by
    have hp := p_pos (p := p)
    have hl := p_le (p := p)
    have ih := lc_scale s hs0 hs1 L xs
    simp only [lcGo, body, initR, sNil, sBreak, sCont, sSeq, sRet, sRetN, sIf, sSet, sOwn, sPut, sAug, sFor, sForT, sForR_eq, dVar, dC, dOp, hAdd_ii, hSub_ii, hMul_ii, hMod_ii, hDiv_ii, hLt_ii, hLe_ii, hGt_ii, hGe_ii, hEq_ii, hNe_ii, dNeg, hInT, hInL, hIx_l, hIx_t, dIxO, dTest, dAnd, dOr, dNot, dAndV, dOrV, dNotV, dIf, dNil, dCons, dL, dTup, dCall, fLen, dLc_eq, dYes, dCat_eq, freeze, wipeR, atc_0, atc_1, atc_2, atc_3, atc_4, atc_5, atc_6, atc_7, atc_8, List.map_cons, List.map_nil, List.length_cons, List.length_nil, List.replicate, List.cons_append, List.nil_append, List.append_nil, List.getElem?_cons_zero, List.getElem?_cons_succ, List.getElem?_nil, List.set_cons_zero, List.set_cons_succ, List.set_nil, Option.bind_some, Option.map_some, Option.bind_none, Option.map_none, if_true, if_false, Bool.false_eq_true, Nat.reduceAdd, Nat.reduceSub, List.length_map, intsOf_ints, Bool.not_true, Bool.not_false, decide_true, decide_false, Function.comp, cat2_ll, lcL_l, dMeth, dNew, dCut, dRep, dLcR_eq, fListOf_t, hp, cMul_l (i := s) (j := x) (by omega) (by omega)]
    rw [ih]
    simp only [body, initR, sNil, sBreak, sCont, sSeq, sRet, sRetN, sIf, sSet, sOwn, sPut, sAug, sFor, sForT, sForR_eq, dVar, dC, dOp, hAdd_ii, hSub_ii, hMul_ii, hMod_ii, hDiv_ii, hLt_ii, hLe_ii, hGt_ii, hGe_ii, hEq_ii, hNe_ii, dNeg, hInT, hInL, hIx_l, hIx_t, dIxO, dTest, dAnd, dOr, dNot, dAndV, dOrV, dNotV, dIf, dNil, dCons, dL, dTup, dCall, fLen, dLc_eq, dYes, dCat_eq, freeze, wipeR, atc_0, atc_1, atc_2, atc_3, atc_4, atc_5, atc_6, atc_7, atc_8, List.map_cons, List.map_nil, List.length_cons, List.length_nil, List.replicate, List.cons_append, List.nil_append, List.append_nil, List.getElem?_cons_zero, List.getElem?_cons_succ, List.getElem?_nil, List.set_cons_zero, List.set_cons_succ, List.set_nil, Option.bind_some, Option.map_some, Option.bind_none, Option.map_none, if_true, if_false, Bool.false_eq_true, Nat.reduceAdd, Nat.reduceSub, List.length_map, intsOf_ints, Bool.not_true, Bool.not_false, decide_true, decide_false, Function.comp, cat2_ll, lcL_l, dMeth, dNew, dCut, dRep, dLcR_eq, fListOf_t]
theorem lift_form (xs : List Int) : lift (formZ (zi p xs)) = xs.map fun x => ((leadZ (zi p xs))⁻¹).v * x % p := by
  unfold lift formZ
  simp only [zi, List.map_map]
  refine List.map_congr_left fun x _ => ?_
  show ((x % p) * _) % p = _
  rw [Int.mul_comm, Int.mul_emod, Int.emod_emod_of_dvd x (Int.dvd_refl _), ← Int.mul_emod]
theorem d_form_of_eq (xs : List Int) (hl : xs.length < 16777216) : d_form_of [.int p, iL xs] = some (iL (lift (formZ (zi p xs)))) := by
  have e1 := d_first_not_zero_eq (p := p) xs
  have hlt := v_lt (leadZ (zi p xs))
  have hge := v_nonneg (leadZ (zi p xs))
  have hp := p_le (p := p)
  have e2 := d_inverse_eq (p := p) (leadZ (zi p xs)).v (by omega) (by omega)
  rw [c_v] at e2
  have e3 := lc_scale (p := p) ((leadZ (zi p xs))⁻¹).v (v_nonneg _) (v_lt _) (some (.val (iL xs))) xs
  simp only [iL, body, initR, sNil, sBreak, sCont, sSeq, sRet, sRetN, sIf, sSet, sOwn, sPut, sAug, sFor, sForT, sForR_eq, dVar, dC, dOp, hAdd_ii, hSub_ii, hMul_ii, hMod_ii, hDiv_ii, hLt_ii, hLe_ii, hGt_ii, hGe_ii, hEq_ii, hNe_ii, dNeg, hInT, hInL, hIx_l, hIx_t, dIxO, dTest, dAnd, dOr, dNot, dAndV, dOrV, dNotV, dIf, dNil, dCons, dL, dTup, dCall, fLen, dLc_eq, dYes, dCat_eq, freeze, wipeR, atc_0, atc_1, atc_2, atc_3, atc_4, atc_5, atc_6, atc_7, atc_8, List.map_cons, List.map_nil, List.length_cons, List.length_nil, List.replicate, List.cons_append, List.nil_append, List.append_nil, List.getElem?_cons_zero, List.getElem?_cons_succ, List.getElem?_nil, List.set_cons_zero, List.set_cons_succ, List.set_nil, Option.bind_some, Option.map_some, Option.bind_none, Option.map_none, if_true, if_false, Bool.false_eq_true, Nat.reduceAdd, Nat.reduceSub, List.length_map, intsOf_ints, Bool.not_true, Bool.not_false, decide_true, decide_false, Function.comp, cat2_ll, lcL_l, dMeth, dNew, dCut, dRep, dLcR_eq, fListOf_t] at e1 e2 e3
  simp only [d_form_of, iL, body, initR, sNil, sBreak, sCont, sSeq, sRet, sRetN, sIf, sSet, sOwn, sPut, sAug, sFor, sForT, sForR_eq, dVar, dC, dOp, hAdd_ii, hSub_ii, hMul_ii, hMod_ii, hDiv_ii, hLt_ii, hLe_ii, hGt_ii, hGe_ii, hEq_ii, hNe_ii, dNeg, hInT, hInL, hIx_l, hIx_t, dIxO, dTest, dAnd, dOr, dNot, dAndV, dOrV, dNotV, dIf, dNil, dCons, dL, dTup, dCall, fLen, dLc_eq, dYes, dCat_eq, freeze, wipeR, atc_0, atc_1, atc_2, atc_3, atc_4, atc_5, atc_6, atc_7, atc_8, List.map_cons, List.map_nil, List.length_cons, List.length_nil, List.replicate, List.cons_append, List.nil_append, List.append_nil, List.getElem?_cons_zero, List.getElem?_cons_succ, List.getElem?_nil, List.set_cons_zero, List.set_cons_succ, List.set_nil, Option.bind_some, Option.map_some, Option.bind_none, Option.map_none, if_true, if_false, Bool.false_eq_true, Nat.reduceAdd, Nat.reduceSub, List.length_map, intsOf_ints, Bool.not_true, Bool.not_false, decide_true, decide_false, Function.comp, cat2_ll, lcL_l, dMeth, dNew, dCut, dRep, dLcR_eq, fListOf_t, e1, e2, hl, e3, lift_form]
end
end Pb
end
section
set_option Elab.async false
set_option linter.all false
set_option maxRecDepth 100000
set_option maxHeartbeats 1000000
namespace Pb
open L2 Dn Z
open PySem.W (WData)
open WrraybNeutral (nats told rowT)
theorem len6 {α : Type} {l : List α} (h : l.length = 6) : ∃ a b c d e f, l = [a, b, c, d, e, f] := by
  match l, h with
  | [a, b, c, d, e, f], _ => exact ⟨a, b, c, d, e, f, rfl⟩
theorem lift_len {p : Nat} (l : List (Z p)) : (lift l).length = l.length := by simp [lift]
theorem zi_len (p : Nat) (x : List Int) : (zi p x).length = x.length := by simp [zi]
theorem zi_cons (p : Nat) (a : Int) (x : List Int) : zi p (a :: x) = c p a :: zi p x := rfl
theorem zi_nil (p : Nat) : zi p [] = [] := rfl
section
variable {p : Nat} [P : Pr p]
theorem formZ_len (l : List (Z p)) : (formZ l).length = l.length := by simp [formZ]
theorem bd_lift (l : List (Z p)) : Bd (lift l) := by
  intro a ha
  unfold lift at ha
  obtain ⟨z, _, rfl⟩ := List.mem_map.mp ha
  have h0 := v_nonneg z
  have h1 := v_lt z
  have h2 := p_le (p := p)
  omega
theorem int_v {z : Int} {a : Z p} (h : c p z = a) : z % p = a.v := by rw [← h]; rfl
theorem join3 (a b d e f g : Z p) : joinZ [a, b, d] [e, f, g] = [b * g - d * f, d * e - a * g, a * f - b * e] := rfl
theorem val6 (a b d e f g x y z : Z p) : valZ [a, b, d, e, f, g] [x, y, z] = a * (x * x) + b * (y * y) + d * (z * z) + e * (y * z) + f * (x * z) + g * (x * y) := by
  show a * (x * x) + (b * (y * y) + (d * (z * z) + (e * (y * z) + (f * (x * z) + (g * (x * y) + 0))))) = _
  grind
end
end Pb
end
section
set_option Elab.async false
set_option linter.all false
set_option maxRecDepth 100000
set_option maxHeartbeats 1000000
namespace Pb
open L2 Dn Z
open PySem.W (WData)
open WrraybNeutral (nats told rowT)
theorem zr_nats {p : Nat} {x : List Int} (h : ∀ a ∈ x, 0 ≤ a) : zr p (nats x) = zi p x := by
  unfold zr zi WrraybNeutral.nats
  rw [List.map_map]
  refine List.map_congr_left fun a ha => ?_
  show c p (a.toNat : Int) = c p a
  rw [Int.toNat_of_nonneg (h a ha)]
theorem nats_len (x : List Int) : (nats x).length = x.length := by simp [WrraybNeutral.nats]
structure Row9 (x : List Int) : Prop where
  len : x.length ≤ 9
  low : ∀ a ∈ x, 0 ≤ a
  high : ∀ a ∈ x, a ≤ 4294967295
theorem Row9.bd {x : List Int} (h : Row9 x) : Bd x := fun a ha => by
  have := h.low a ha
  have := h.high a ha
  omega
theorem Row9.lt {x : List Int} (h : Row9 x) : x.length < 16777216 := by
  have := h.len
  omega
theorem isPoint_zi {p : Nat} [Pr p] {x : List Int} (h : Row9 x) : Wrrayb.isPoint p (nats x) = isN p 3 x := by
  rw [isPoint_eq, zr_nats h.low, nats_len]; rfl
theorem primeOk_nat {p : Nat} [P : Pr p] : Wrrayb.primeOk p = true := (primeOk_iff p).mpr P.mem
theorem dec_odd {p : Nat} [P : Pr p] : decide ((p : Int) ∈ oddPrimes) = true := decide_eq_true (pr_odd P.mem)
theorem not_odd {p : Int} (h : p ∉ oddPrimes) : Wrrayb.primeOk p.toNat = false := by
  cases e : Wrrayb.primeOk p.toNat with
  | false => rfl
  | true => exact (h ((odd_iff p).mpr e)).elim
theorem gate_true (a : Wrrayb.Answer) : gate true a = told a := rfl
theorem gate_false (a : Wrrayb.Answer) : gate false a = [-1] := rfl
theorem told_row (r : List Nat) : told (.row r) = 0 :: rowT r := rfl
theorem told_no (z : Int) : told (.no z) = [z] := rfl
section
variable {p : Nat} [P : Pr p]
end
section
variable {p : Nat} [P : Pr p]
end
end Pb
end
section
set_option Elab.async false
set_option linter.all false
set_option maxRecDepth 100000
set_option maxHeartbeats 1000000
namespace Pb
open L2 Dn Z
open PySem.W (WData)
open WrraybNeutral (nats told rowT)
section
variable {p : Nat} [P : Pr p]
theorem lead_all {l : List (Z p)} (h : leadZ l = 0) : ∀ a ∈ l, a = 0 := fun a ha => by
  by_cases q : a = 0
  · exact q
  · exact (leadZ_ne.mpr ⟨a, ha, q⟩ h).elim
end
section
variable {p : Nat} [P : Pr p]
theorem d_value_at_eq {k x : List Int} (hk : k.length = 6) (hx : x.length = 3) (bk : Bd k) (bx : Bd x) : d_value_at [.int p, iL k, iL x] = some (.int (valZ (zi p k) (zi p x)).v) := by
  obtain ⟨k0, k1, k2, k3, k4, k5, rfl⟩ := len6 hk
  obtain ⟨x0, x1, x2, rfl⟩ := len3 hx
  have hp := p_pos (p := p)
  have m0 := fun b => bk.mul (a := k0) (by simp) b
  have m1 := fun b => bk.mul (a := k1) (by simp) b
  have m2 := fun b => bk.mul (a := k2) (by simp) b
  have m3 := fun b => bk.mul (a := k3) (by simp) b
  have m4 := fun b => bk.mul (a := k4) (by simp) b
  have m5 := fun b => bk.mul (a := k5) (by simp) b
  have n0 := fun b => bx.mulR (a := x0) (by simp) b
  have n1 := fun b => bx.mulR (a := x1) (by simp) b
  have n2 := fun b => bx.mulR (a := x2) (by simp) b
  simp only [d_value_at, body, initR, sNil, sBreak, sCont, sSeq, sRet, sRetN, sIf, sSet, sOwn, sPut, sAug, sFor, sForT, sForR_eq, dVar, dC, dOp, hAdd_ii, hSub_ii, hMul_ii, hMod_ii, hDiv_ii, hLt_ii, hLe_ii, hGt_ii, hGe_ii, hEq_ii, hNe_ii, dNeg, hInT, hInL, hIx_iL, hIx_rL, fLen_iL, fLen_rL, cat_iL, cat_rL, cut_iL, hEqL_iL, rfold1, rfold2, rfold3, rfold4, rfold5, rfold8, foldc, foldcc, fold0, fold1, fold2, fold3, fold6, fold9, foldL, foldR, lcL_iL, lcL_rL, dIxO, dTest, dAnd, dOr, dNot, dAndV, dOrV, dNotV, dIf, dNil, dCons, dL, dTup, dCall, dLc_eq, dYes, dCat_eq, freeze, wipeR, atc_0, atc_1, atc_2, atc_3, atc_4, atc_5, atc_6, atc_7, atc_8, List.map_cons, List.map_nil, List.length_cons, List.length_nil, List.replicate, List.cons_append, List.nil_append, List.append_nil, List.getElem?_cons_zero, List.getElem?_cons_succ, List.getElem?_nil, List.set_cons_zero, List.set_cons_succ, List.set_nil, Option.bind_some, Option.map_some, Option.bind_none, Option.map_none, if_true, if_false, Bool.false_eq_true, Nat.reduceAdd, Nat.reduceSub, List.length_map, intsOf_ints, Bool.not_true, Bool.not_false, decide_true, decide_false, Function.comp, dMeth, dNew, dCut, dRep, dLcR_eq, fListOf_t, m0, m1, m2, m3, m4, m5, n0, n1, n2, hp]
  rw [int_v (a := valZ (zi p [k0, k1, k2, k3, k4, k5]) (zi p [x0, x1, x2])) (by simp only [zi_cons, zi_nil, val6, c_add, c_mul]; grind)]
end
end Pb
end
section
set_option Elab.async false
set_option linter.all false
set_option maxRecDepth 100000
set_option maxHeartbeats 1000000
namespace Pb
open L2 Dn Z
open PySem.W (WData)
open WrraybNeutral (nats told rowT)
section
variable {p : Nat} [P : Pr p]
end
end Pb
end
section
set_option Elab.async false
set_option linter.all false
set_option maxRecDepth 100000
set_option maxHeartbeats 1000000
namespace Pb
open L2 Dn Z
open PySem.W (WData)
open WrraybNeutral (nats told rowT)
section
variable {p : Nat} [P : Pr p]
end
section
variable {p : Nat} [P : Pr p]
end
end Pb
end
section
set_option Elab.async false
set_option linter.all false
set_option maxRecDepth 100000
set_option maxHeartbeats 1000000
namespace Pb
open L2 Dn Z
open PySem.W (WData)
open WrraybNeutral (nats told rowT)
section
variable {p : Nat} [P : Pr p]
end
end Pb
end
section
set_option Elab.async false
set_option linter.all false
set_option maxRecDepth 100000
set_option maxHeartbeats 1000000
namespace Pb
open L2 Dn Z
open PySem.W (WData)
open WrraybNeutral (nats told rowT)
section
variable {p : Nat} [P : Pr p]
def mixZ (s t : Z p) (x y : List (Z p)) : List (Z p) := List.zipWith (fun a b => s * a + t * b) x y
theorem mixZ_len {s t : Z p} {x y : List (Z p)} (h : x.length = y.length) : (mixZ s t x y).length = x.length := by
  unfold mixZ
  rw [List.length_zipWith, h, Nat.min_self]
theorem find_one {α : Type} [DecidableEq α] {l : List α} {q : α → Bool} {x : α} (hx : x ∈ l) (h : ∀ y ∈ l, q y = true ↔ y = x) : l.find? q = some x := by
  induction l with
  | nil => cases hx
  | cons y l ih =>
    rw [List.find?_cons]
    cases e : q y with
    | true => rw [(h y (List.mem_cons_self ..)).mp e]
    | false =>
      refine ih ?_ fun z hz => h z (List.mem_cons_of_mem _ hz)
      rcases List.mem_cons.mp hx with rfl | hx
      · rw [(h x (List.mem_cons_self ..)).mpr rfl] at e
        cases e
      · exact hx
theorem lead_mem {l : List (Z p)} (h : leadZ l ≠ 0) : leadZ l ∈ l := by
  induction l with
  | nil => exact (h rfl).elim
  | cons a l ih =>
    unfold leadZ at h ⊢
    split
    · rename_i q
      rw [if_pos q] at h
      exact List.mem_cons_of_mem _ (ih h)
    · exact List.mem_cons_self ..
theorem at_lift {l : List (Z p)} {i : Nat} (hi : i < l.length) : atI ((lift l).map WData.int) (i : Int) = some (.int (az l i).v) := by
  refine at_ints ?_
  unfold lift az
  rw [List.getElem?_map, List.getD_eq_getElem?_getD, List.getElem?_eq_getElem hi]
  rfl
theorem range_zip {α β γ : Type} (f : α → β → γ) (a0 : α) (b0 : β) : ∀ {x : List α} {y : List β}, x.length = y.length → (List.range x.length).map (fun i => f (x.getD i a0) (y.getD i b0)) = List.zipWith f x y
  | [], [], _ => rfl
  | [], _ :: _, h => by simp at h
  | _ :: _, [], h => by simp at h
  | a :: x, b :: y, h => by
    have ih := range_zip f a0 b0 (x := x) (y := y) (by simpa using h)
    rw [List.length_cons, List.range_succ_eq_map, List.map_cons, List.map_map, List.zipWith_cons_cons, ← ih]
    rfl
theorem d_mixed_eq {s t : Int} {x y : List Int} {Y : WData} (hY : ∀ i : Int, hIx Y (.int i) = atI (y.map .int) i) (h : x.length = y.length) (hl : x.length ≤ 1000) (s0 : -18446744073709551616 < s) (s1 : s < 18446744073709551616) (t0 : -18446744073709551616 < t) (t1 : t < 18446744073709551616) :
    d_mixed [.int p, .int s, iL x, .int t, Y] = some (iL (lift (mixZ (c p s) (c p t) (zi p x) (zi p y)))) := by
  have hp := p_pos (p := p)
  have e1 : lcGo 5 [some (.val (.int p)), some (.val (.int s)), some (.val (iL x)), some (.val (.int t)), some (.val Y), none] dYes (dOp hMod (dOp hAdd (dOp hMul (dVar 1) (dOp hIx (dVar 2) (dVar 5))) (dOp hMul (dVar 3) (dOp hIx (dVar 4) (dVar 5)))) (dVar 0)) (rng 0 x.length) = some ((List.range x.length).map fun i => .int ((s * x.getD i 0 + t * y.getD i 0) % p)) := by
    rw [rng_map]
    refine lcGo_map _ _ fun i hi => ?_
    have hi := List.mem_range.mp hi
    have a1 : atI (x.map WData.int) (i : Int) = some (.int (x.getD i 0)) := at_ints (by rw [List.getD_eq_getElem?_getD, List.getElem?_eq_getElem hi]; rfl)
    have a2 : atI (y.map WData.int) (i : Int) = some (.int (y.getD i 0)) := at_ints (by rw [List.getD_eq_getElem?_getD, List.getElem?_eq_getElem (show i < y.length by omega)]; rfl)
    simp only [body, initR, sNil, sBreak, sCont, sSeq, sRet, sRetN, sIf, sSet, sOwn, sPut, sAug, sFor, sForT, sForR_eq, dVar, dC, dOp, hAdd_ii, hSub_ii, hMul_ii, hMod_ii, hDiv_ii, hLt_ii, hLe_ii, hGt_ii, hGe_ii, hEq_ii, hNe_ii, dNeg, hInT, hInL, hIx_iL, hIx_rL, fLen_iL, fLen_rL, cat_iL, cat_rL, cut_iL, hEqL_iL, rfold1, rfold2, rfold3, rfold4, rfold5, rfold8, foldc, foldcc, fold0, fold1, fold2, fold3, fold6, fold9, foldL, foldR, lcL_iL, lcL_rL, dIxO, dTest, dAnd, dOr, dNot, dAndV, dOrV, dNotV, dIf, dNil, dCons, dL, dTup, dCall, dLc_eq, dYes, dCat_eq, freeze, wipeR, atc_0, atc_1, atc_2, atc_3, atc_4, atc_5, atc_6, atc_7, atc_8, List.map_cons, List.map_nil, List.length_cons, List.length_nil, List.replicate, List.cons_append, List.nil_append, List.append_nil, List.getElem?_cons_zero, List.getElem?_cons_succ, List.getElem?_nil, List.set_cons_zero, List.set_cons_succ, List.set_nil, Option.bind_some, Option.map_some, Option.bind_none, Option.map_none, if_true, if_false, Bool.false_eq_true, Nat.reduceAdd, Nat.reduceSub, List.length_map, intsOf_ints, Bool.not_true, Bool.not_false, decide_true, decide_false, Function.comp, dMeth, dNew, dCut, dRep, dLcR_eq, fListOf_t, hY, a1, a2, cMul_l (i := s) (j := x.getD i 0) s0 s1, cMul_l (i := t) (j := y.getD i 0) t0 t1, hp]
  have e2 : ((List.range x.length).map fun i => WData.int ((s * x.getD i 0 + t * y.getD i 0) % p)) = (lift (mixZ (c p s) (c p t) (zi p x) (zi p y))).map .int := by
    have : (List.range x.length).map (fun i => (s * x.getD i 0 + t * y.getD i 0) % p) = lift (mixZ (c p s) (c p t) (zi p x) (zi p y)) := by
      rw [range_zip (fun a b => (s * a + t * b) % (p : Int)) 0 0 h]
      unfold lift mixZ zi
      rw [List.map_zipWith, List.zipWith_map]
      congr 1
      funext a b
      rw [← c_mul, ← c_mul, ← c_add]
      rfl
    rw [← this, List.map_map]
    rfl
  rw [e2] at e1
  have t1 : ((x.length : Nat) : Int).toNat = x.length := by omega
  simp only [d_mixed, body, initR, sNil, sBreak, sCont, sSeq, sRet, sRetN, sIf, sSet, sOwn, sPut, sAug, sFor, sForT, sForR_eq, dVar, dC, dOp, hAdd_ii, hSub_ii, hMul_ii, hMod_ii, hDiv_ii, hLt_ii, hLe_ii, hGt_ii, hGe_ii, hEq_ii, hNe_ii, dNeg, hInT, hInL, hIx_iL, hIx_rL, fLen_iL, fLen_rL, cat_iL, cat_rL, cut_iL, hEqL_iL, rfold1, rfold2, rfold3, rfold4, rfold5, rfold8, foldc, foldcc, fold0, fold1, fold2, fold3, fold6, fold9, foldL, foldR, lcL_iL, lcL_rL, dIxO, dTest, dAnd, dOr, dNot, dAndV, dOrV, dNotV, dIf, dNil, dCons, dL, dTup, dCall, dLc_eq, dYes, dCat_eq, freeze, wipeR, atc_0, atc_1, atc_2, atc_3, atc_4, atc_5, atc_6, atc_7, atc_8, List.map_cons, List.map_nil, List.length_cons, List.length_nil, List.replicate, List.cons_append, List.nil_append, List.append_nil, List.getElem?_cons_zero, List.getElem?_cons_succ, List.getElem?_nil, List.set_cons_zero, List.set_cons_succ, List.set_nil, Option.bind_some, Option.map_some, Option.bind_none, Option.map_none, if_true, if_false, Bool.false_eq_true, Nat.reduceAdd, Nat.reduceSub, List.length_map, intsOf_ints, Bool.not_true, Bool.not_false, decide_true, decide_false, Function.comp, dMeth, dNew, dCut, dRep, dLcR_eq, fListOf_t, lcRs_1 (j := (x.length : Int)) (by omega) (by omega), t1, e1]
end
end Pb
end
section
set_option Elab.async false
set_option linter.all false
set_option maxRecDepth 100000
set_option maxHeartbeats 1000000
namespace Pb
open L2 Dn Z
open PySem.W (WData)
open WrraybNeutral (nats told rowT)
end Pb
end
section
set_option Elab.async false
set_option linter.all false
set_option maxRecDepth 100000
set_option maxHeartbeats 1000000
namespace Pb
open L2 Dn Z
open PySem.W (WData)
open WrraybNeutral (nats told rowT)
section
variable {p : Nat} [P : Pr p]
def lst (m : M3 (Z p)) : List (Z p) := [m.a, m.b, m.c, m.d, m.e, m.f, m.g, m.h, m.i]
end
end Pb
end
section
set_option Elab.async false
set_option linter.all false
set_option maxRecDepth 100000
set_option maxHeartbeats 1000000
namespace Pb
open L2 Dn Z
open WrraybNeutral (nats told rowT)
section
variable {p : Nat} [P : Pr p]
abbrev o3 : List (Z p) := [0, 0, 0]
theorem par {x y : List (Z p)} (hx : x.length = 3) (hy : y.length = 3) (nx : leadZ x ≠ 0) (h : joinZ y x = o3) : ∃ a : Z p, y = x.map (a * ·) := by
  obtain ⟨x0, x1, x2, rfl⟩ := len3 hx
  obtain ⟨y0, y1, y2, rfl⟩ := len3 hy
  rw [join3] at h
  simp only [List.cons.injEq, and_true] at h
  obtain ⟨h1, h2, h3⟩ := h
  by_cases q0 : x0 = 0
  · by_cases q1 : x1 = 0
    · by_cases q2 : x2 = 0
      · exact (nx (lead3.mpr ⟨q0, q1, q2⟩)).elim
      · refine ⟨y2 * x2⁻¹, ?_⟩
        simp only [List.map_cons, List.map_nil, List.cons.injEq, and_true]
        refine ⟨by grind, by grind, by grind⟩
    · refine ⟨y1 * x1⁻¹, ?_⟩
      simp only [List.map_cons, List.map_nil, List.cons.injEq, and_true]
      refine ⟨by grind, by grind, by grind⟩
  · refine ⟨y0 * x0⁻¹, ?_⟩
    simp only [List.map_cons, List.map_nil, List.cons.injEq, and_true]
    refine ⟨by grind, by grind, by grind⟩
def rest (k : Z p) (m : List (Z p)) : List (Z p) := [az m 0 - k, az m 1, az m 2, az m 3, az m 4 - k, az m 5, az m 6, az m 7, az m 8 - k]
def Rows (m u : List (Z p)) : Prop := joinZ (rowZ m 0) u = o3 ∧ joinZ (rowZ m 1) u = o3 ∧ joinZ (rowZ m 2) u = o3
def St (m x : List (Z p)) : Prop := joinZ (applyZ m x) x = o3
end
end Pb
end
section
set_option Elab.async false
set_option linter.all false
set_option maxRecDepth 100000
set_option maxHeartbeats 1000000
namespace Pb
open L2 Dn Z
open PySem.W (WData)
open WrraybNeutral (nats told rowT)
section
variable {p : Nat} [P : Pr p]
end
end Pb
end
section
set_option Elab.async false
set_option linter.all false
set_option maxRecDepth 100000
set_option maxHeartbeats 1000000
namespace Pb
open L2 Dn Z
open PySem.W (WData)
open WrraybNeutral (nats told rowT)
section
variable {p : Nat} [P : Pr p]
def R1 (k : Z p) (m : List (Z p)) : Prop := detZ (rest k m) = 0 ∧ leadZ (adjZ (rest k m)) = 0
end
end Pb
end
section
set_option Elab.async false
set_option linter.all false
set_option maxRecDepth 100000
set_option maxHeartbeats 1000000
namespace Pb
open L2 Dn Z
open WrraybNeutral (nats told rowT)
section
variable {p : Nat} [P : Pr p]
def ev (v : Nat → Z p) (m : List (Z p)) : Z p := v 0 * az m 0 + v 1 * az m 1 + v 2 * az m 2 + v 3 * az m 3 + v 4 * az m 4 + v 5 * az m 5
def comb : List (Z p) → List (List (Z p)) → Nat → Z p
  | a :: as, b :: bs, i => a * az b i + comb as bs i
  | _, _, _ => 0
def dotc : List (Z p) → List (Z p) → Z p
  | a :: as, b :: bs => a * b + dotc as bs
  | _, _ => 0
theorem comb_nil (B : List (List (Z p))) (i : Nat) : comb [] B i = 0 := by
  cases B <;> rfl
theorem comb_cons (a : Z p) (as : List (Z p)) (b : List (Z p)) (bs : List (List (Z p))) (i : Nat) : comb (a :: as) (b :: bs) i = a * az b i + comb as bs i := rfl
theorem comb_app : ∀ {c1 c2 : List (Z p)} {B1 B2 : List (List (Z p))} (i : Nat), c1.length = B1.length → comb (c1 ++ c2) (B1 ++ B2) i = comb c1 B1 i + comb c2 B2 i
  | [], c2, [], B2, i, _ => by
    show comb c2 B2 i = 0 + comb c2 B2 i
    grind
  | [], _, _ :: _, _, _, h => by simp at h
  | _ :: _, _, [], _, _, h => by simp at h
  | a :: c1, c2, b :: B1, B2, i, h => by
    have ih := comb_app (c1 := c1) (c2 := c2) (B1 := B1) (B2 := B2) i (by simpa using h)
    show a * az b i + comb (c1 ++ c2) (B1 ++ B2) i = a * az b i + comb c1 B1 i + comb c2 B2 i
    rw [ih]
    grind
theorem comb_scale (k : Z p) : ∀ (as : List (Z p)) (B : List (List (Z p))) (i : Nat), comb (as.map (k * ·)) B i = k * comb as B i
  | [], B, i => by
    rw [List.map_nil, comb_nil]
    grind
  | a :: as, [], i => by
    show (0 : Z p) = k * 0
    grind
  | a :: as, b :: B, i => by
    rw [List.map_cons, comb_cons, comb_cons, comb_scale k as B i]
    grind
theorem dotc_nil (B : List (Z p)) : dotc [] B = 0 := by
  cases B <;> rfl
theorem dotc_app : ∀ {c1 c2 B1 B2 : List (Z p)}, c1.length = B1.length → dotc (c1 ++ c2) (B1 ++ B2) = dotc c1 B1 + dotc c2 B2
  | [], c2, [], B2, _ => by
    show dotc c2 B2 = 0 + dotc c2 B2
    grind
  | [], _, _ :: _, _, h => by simp at h
  | _ :: _, _, [], _, h => by simp at h
  | a :: c1, c2, b :: B1, B2, h => by
    have ih := dotc_app (c1 := c1) (c2 := c2) (B1 := B1) (B2 := B2) (by simpa using h)
    show a * b + dotc (c1 ++ c2) (B1 ++ B2) = a * b + dotc c1 B1 + dotc c2 B2
    rw [ih]
    grind
theorem dotc_scale (k : Z p) : ∀ (as B : List (Z p)), dotc (as.map (k * ·)) B = k * dotc as B
  | [], B => by
    rw [List.map_nil, dotc_nil]
    grind
  | a :: as, [] => by
    show (0 : Z p) = k * 0
    grind
  | a :: as, b :: B => by
    show k * a * b + dotc (as.map (k * ·)) B = k * (a * b + dotc as B)
    rw [dotc_scale k as B]
    grind
theorem ev_comb (m : List (Z p)) : ∀ (as : List (Z p)) (B : List (List (Z p))), ev (comb as B) m = dotc as (B.map fun b => ev (az b) m)
  | [], B => by
    rw [dotc_nil]
    unfold ev
    rw [comb_nil, comb_nil, comb_nil, comb_nil, comb_nil, comb_nil]
    grind
  | a :: as, [] => by
    show (0 : Z p) * az m 0 + 0 * az m 1 + 0 * az m 2 + 0 * az m 3 + 0 * az m 4 + 0 * az m 5 = 0
    grind
  | a :: as, b :: B => by
    have ih := ev_comb m as B
    rw [List.map_cons]
    show _ = a * ev (az b) m + dotc as (B.map fun b => ev (az b) m)
    rw [← ih]
    unfold ev
    simp only [comb_cons]
    grind
theorem ev_congr {v w : Nat → Z p} (h : ∀ i, i < 6 → v i = w i) (m : List (Z p)) : ev v m = ev w m := by
  unfold ev
  rw [h 0 (by omega), h 1 (by omega), h 2 (by omega), h 3 (by omega), h 4 (by omega), h 5 (by omega)]
theorem val_ev {k x : List (Z p)} (hk : k.length = 6) (hx : x.length = 3) : valZ k x = ev (az k) (monZ x) := by
  obtain ⟨a, b, d, e, f, g, rfl⟩ := len6 hk
  obtain ⟨x, y, z, rfl⟩ := len3 hx
  rw [val6]
  unfold ev monZ
  simp only [az, List.getD_cons_zero, List.getD_cons_succ]
theorem az_mix {s t : Z p} {x y : List (Z p)} (h : x.length = y.length) (i : Nat) : az (mixZ s t x y) i = s * az x i + t * az y i := by
  unfold az mixZ
  rw [List.getD_eq_getElem?_getD, List.getD_eq_getElem?_getD, List.getD_eq_getElem?_getD, List.getElem?_zipWith]
  by_cases hi : i < x.length
  · rw [List.getElem?_eq_getElem hi, List.getElem?_eq_getElem (show i < y.length by omega)]
    rfl
  · rw [List.getElem?_eq_none (show x.length ≤ i by omega), List.getElem?_eq_none (show y.length ≤ i by omega)]
    show (0 : Z p) = s * 0 + t * 0
    grind
theorem comb_narrow {l : Z p} {b : List (Z p)} {a : List (Z p) → Z p} (hb : b.length = 6) (i : Nat) : ∀ (as : List (Z p)) {Q : List (List (Z p))}, (∀ q ∈ Q, q.length = 6) → comb as (Q.map fun q => mixZ l (-(a q)) q b) i = l * comb as Q i - dotc as (Q.map a) * az b i
  | [], Q, _ => by
    rw [comb_nil, comb_nil, dotc_nil]
    grind
  | x :: as, [], _ => by
    show (0 : Z p) = l * 0 - 0 * az b i
    grind
  | x :: as, q :: Q, h => by
    have ih := comb_narrow (l := l) (a := a) hb i as (Q := Q) fun q hq => h q (List.mem_cons_of_mem _ hq)
    rw [List.map_cons, List.map_cons, comb_cons, comb_cons, ih, az_mix (by rw [h q (List.mem_cons_self ..), hb])]
    show _ = _ - (x * a q + dotc as (Q.map a)) * az b i
    grind
theorem split_at {α β : Type} {as : List α} {L R : List β} (h : as.length = (L ++ R).length) : ∃ cL cR, as = cL ++ cR ∧ cL.length = L.length ∧ cR.length = R.length := by
  rw [List.length_append] at h
  exact ⟨as.take L.length, as.drop L.length, (List.take_append_drop _ _).symm, by rw [List.length_take]; omega, by rw [List.length_drop]; omega⟩
structure Inv6 (B : List (List (Z p))) (xs : List (List (Z p))) : Prop where
  len : ∀ b ∈ B, b.length = 6
  cnt : 6 ≤ B.length + xs.length
  sol : ∀ b ∈ B, ∀ m ∈ xs, ev (az b) m = 0
  ind : ∀ as : List (Z p), as.length = B.length → (∀ i, i < 6 → comb as B i = 0) → ∀ a ∈ as, a = 0
  span : ∀ v : Nat → Z p, (∀ m ∈ xs, ev v m = 0) → ∃ as : List (Z p), as.length = B.length ∧ ∀ i, i < 6 → v i = comb as B i
theorem inv_same {B xs : List (List (Z p))} {m : List (Z p)} (I : Inv6 B xs) (h : ∀ b ∈ B, ev (az b) m = 0) : Inv6 B (m :: xs) where
  len := I.len
  cnt := by have := I.cnt; rw [List.length_cons]; omega
  sol := fun b hb n hn => by
    rcases List.mem_cons.mp hn with rfl | hn
    · exact h b hb
    · exact I.sol b hb n hn
  ind := I.ind
  span := fun v hv => I.span v fun n hn => hv n (List.mem_cons_of_mem _ hn)
theorem inv_narrow {L R xs : List (List (Z p))} {b m : List (Z p)} (I : Inv6 (L ++ b :: R) xs) (h : ev (az b) m ≠ 0) : Inv6 ((L ++ R).map fun q => mixZ (ev (az b) m) (-(ev (az q) m)) q b) (m :: xs) := by
  have hb : b.length = 6 := I.len b (by simp)
  have hQ : ∀ q ∈ L ++ R, q.length = 6 := fun q hq => I.len q (by
    rcases List.mem_append.mp hq with q' | q'
    · exact List.mem_append.mpr (.inl q')
    · exact List.mem_append.mpr (.inr (List.mem_cons_of_mem _ q')))
  have hmem : ∀ q ∈ L ++ R, q ∈ L ++ b :: R := fun q hq => by
    rcases List.mem_append.mp hq with q' | q'
    · exact List.mem_append.mpr (.inl q')
    · exact List.mem_append.mpr (.inr (List.mem_cons_of_mem _ q'))
  have evm : ∀ (s t : Z p) (q n : List (Z p)), q.length = 6 → ev (az (mixZ s t q b)) n = s * ev (az q) n + t * ev (az b) n := fun s t q n hq => by
    unfold ev
    simp only [az_mix (show q.length = b.length by rw [hq, hb])]
    grind
  refine ⟨?_, ?_, ?_, ?_, ?_⟩
  · intro q hq
    obtain ⟨q', hq', rfl⟩ := List.mem_map.mp hq
    rw [mixZ_len (by rw [hQ q' hq', hb]), hQ q' hq']
  · have := I.cnt
    rw [List.length_append, List.length_cons] at this
    rw [List.length_map, List.length_append, List.length_cons]
    omega
  · intro q hq n hn
    obtain ⟨q', hq', rfl⟩ := List.mem_map.mp hq
    rw [evm _ _ _ _ (hQ q' hq')]
    rcases List.mem_cons.mp hn with rfl | hn
    · grind
    · rw [I.sol q' (hmem q' hq') n hn, I.sol b (by simp) n hn]
      grind
  · intro as hl hz a ha
    rw [List.length_map] at hl
    obtain ⟨cL, cR, rfl, h1, h2⟩ := split_at hl
    have key := I.ind (cL.map (ev (az b) m * ·) ++ (-(dotc (cL ++ cR) ((L ++ R).map fun q => ev (az q) m))) :: cR.map (ev (az b) m * ·)) (by simp [h1, h2]) fun i hi => by
      have e := hz i hi
      rw [comb_narrow (a := fun q => ev (az q) m) hb i (cL ++ cR) hQ, comb_app i h1] at e
      rw [comb_app i (by simp [h1]), comb_cons, comb_scale, comb_scale]
      grind
    have e2 : ev (az b) m * a = 0 := by
      refine key _ ?_
      rcases List.mem_append.mp ha with q | q
      · exact List.mem_append.mpr (.inl (List.mem_map.mpr ⟨a, q, rfl⟩))
      · exact List.mem_append.mpr (.inr (List.mem_cons_of_mem _ (List.mem_map.mpr ⟨a, q, rfl⟩)))
    grind
  · intro v hv
    obtain ⟨as, hl, he⟩ := I.span v fun n hn => hv n (List.mem_cons_of_mem _ hn)
    obtain ⟨cL, cR', rfl, h1, h2⟩ := split_at hl
    match cR', h2 with
    | cb :: cR, h2 =>
      have h2 : cR.length = R.length := by simpa using h2
      have e0 := hv m (List.mem_cons_self ..)
      rw [ev_congr he, ev_comb, List.map_append, dotc_app (by simp [h1]), List.map_cons] at e0
      have e0 : dotc cL (L.map fun b => ev (az b) m) + (cb * ev (az b) m + dotc cR (R.map fun b => ev (az b) m)) = 0 := e0
      refine ⟨(cL ++ cR).map ((ev (az b) m)⁻¹ * ·), by simp [h1, h2], fun i hi => ?_⟩
      rw [comb_narrow (a := fun q => ev (az q) m) hb i _ hQ, comb_scale, dotc_scale, comb_app i h1, List.map_append, dotc_app (by simp [h1]), he i hi, comb_app i h1, comb_cons]
      generalize dotc cL (L.map fun b => ev (az b) m) = DL at *
      generalize dotc cR (R.map fun b => ev (az b) m) = DR at *
      generalize comb cL L i = CL at *
      generalize comb cR R i = CR at *
      generalize ev (az b) m = E at *
      generalize az b i = bi at *
      clear he hv evm hmem hQ I hl
      have e3 : DL + DR = - (cb * E) := by grind
      rw [e3]
      grind
end
end Pb
end
section
set_option Elab.async false
set_option linter.all false
set_option maxRecDepth 100000
set_option maxHeartbeats 1000000
namespace Pb
open L2 Dn Z
open WrraybNeutral (nats told rowT)
section
variable {p : Nat} [P : Pr p]
theorem undo_mod (x : Nat) : Rb.undo p x = Rb.undo p (x % p) := by
  unfold Rb.undo
  have : ∀ y : Nat, (x * y % p == 1) = (x % p * y % p == 1) := fun y => by
    rw [Nat.mul_mod (x % p) y, Nat.mod_mod, ← Nat.mul_mod]
  simp only [this]
theorem c_undo (x : Nat) : c p (Rb.undo p x : Nat) = (c p (x : Int))⁻¹ := by
  rw [undo_mod]
  show _ = c p (Rb.undo p (c p (x : Int)).v.toNat)
  rw [c_nat_v, Int.toNat_natCast]
theorem az_cleared {i : Nat} {r v : List Nat} (h : v.length = r.length) (j : Nat) : az (zr p (Rb.cleared p i r v)) j = az (zr p v) j - az (zr p v) i * az (zr p r) j := by
  rw [az_zr, az_zr, az_zr, az_zr]
  unfold Rb.cleared
  by_cases hj : j < v.length
  · have e : Rb.at_ (List.zipWith (fun x y => Rb.less p x (Rb.at_ v i % p * y)) v r) j = Rb.less p (Rb.at_ v j) (Rb.at_ v i % p * Rb.at_ r j) := by
      show (List.zipWith _ v r).getD j 0 = Rb.less p (v.getD j 0) (_ * r.getD j 0)
      rw [List.getD_eq_getElem?_getD, List.getD_eq_getElem?_getD, List.getD_eq_getElem?_getD, List.getElem?_zipWith, List.getElem?_eq_getElem hj, List.getElem?_eq_getElem (show j < r.length by omega)]
      rfl
    rw [e, c_less, c_nmul, c_nmod]
  · have z : ∀ l : List Nat, l.length ≤ j → Rb.at_ l j = 0 := fun l hl => by
      show l.getD j 0 = 0
      rw [List.getD_eq_getElem?_getD, List.getElem?_eq_none hl]
      rfl
    rw [z _ (by rw [List.length_zipWith]; omega), z v (by omega), z r (by omega)]
    show (0 : Z p) = 0 - _ * 0
    grind
theorem cleared_len {i : Nat} {r v : List Nat} (h : v.length = r.length) : (Rb.cleared p i r v).length = v.length := by
  unfold Rb.cleared
  rw [List.length_zipWith]
  omega
theorem ev_cleared {i : Nat} {r v : List Nat} (h : v.length = r.length) (u : Nat → Z p) : ev u (zr p (Rb.cleared p i r v)) = ev u (zr p v) - az (zr p v) i * ev u (zr p r) := by
  unfold ev
  simp only [az_cleared h]
  grind
theorem az_map (k : Z p) (l : List (Z p)) (j : Nat) : az (l.map (k * ·)) j = k * az l j := by
  unfold az
  rw [List.getD_eq_getElem?_getD, List.getD_eq_getElem?_getD, List.getElem?_map]
  cases l[j]? with
  | none =>
    show (0 : Z p) = k * 0
    grind
  | some a => rfl
structure G (i : Nat) (D : List Rb.Step) (l : List (List Nat)) (F : List Nat) (xs : List (List (Z p))) : Prop where
  lenD : ∀ s ∈ D, s.row.length = 6
  lenl : ∀ r ∈ l, r.length = 6
  sol : ∀ v : Nat → Z p, ((∀ s ∈ D, ev v (zr p s.row) = 0) ∧ (∀ r ∈ l, ev v (zr p r) = 0)) ↔ ∀ m ∈ xs, ev v m = 0
  zero : ∀ r ∈ l, ∀ j, j < i → az (zr p r) j = 0
  piv : ∀ s ∈ D, s.place < i ∧ az (zr p s.row) s.place = 1
  off : ∀ s ∈ D, ∀ t ∈ D, s.place ≠ t.place → az (zr p s.row) t.place = 0
  uniq : ∀ s ∈ D, ∀ t ∈ D, s.place = t.place → s = t
  nod : F.Nodup
  free : ∀ f ∈ F, f < i ∧ ∀ s ∈ D, s.place ≠ f
  all : ∀ j, j < i → j ∈ F ∨ ∃ s ∈ D, s.place = j
  cnt : D.length + F.length = i
theorem G_skip {i : Nat} {D : List Rb.Step} {l : List (List Nat)} {F : List Nat} {xs : List (List (Z p))} (g : G i D l F xs) (h : ∀ r ∈ l, az (zr p r) i = 0) : G (i + 1) D l (F ++ [i]) xs where
  lenD := g.lenD
  lenl := g.lenl
  sol := g.sol
  zero := fun r hr j hj => by
    by_cases q : j = i
    · rw [q]
      exact h r hr
    · exact g.zero r hr j (by omega)
  piv := fun s hs => ⟨by have := (g.piv s hs).1; omega, (g.piv s hs).2⟩
  off := g.off
  uniq := g.uniq
  nod := by
    rw [List.nodup_append]
    refine ⟨g.nod, by simp, fun a ha b hb e => ?_⟩
    have := (g.free a ha).1
    simp at hb
    omega
  free := fun f hf => by
    rcases List.mem_append.mp hf with q | q
    · exact ⟨by have := (g.free f q).1; omega, (g.free f q).2⟩
    · simp at q
      subst q
      exact ⟨by omega, fun s hs => by have := (g.piv s hs).1; omega⟩
  all := fun j hj => by
    by_cases q : j = i
    · subst q
      exact .inl (by simp)
    · rcases g.all j (by omega) with q | q
      · exact .inl (List.mem_append.mpr (.inl q))
      · exact .inr q
  cnt := by
    have := g.cnt
    rw [List.length_append]
    simp
    omega
theorem G_step {i : Nat} {D : List Rb.Step} {l : List (List Nat)} {F : List Nat} {xs : List (List (Z p))} {v r : List Nat} (g : G i D l F xs) (hv : v ∈ l) (hi : az (zr p v) i ≠ 0) (hr : zr p r = (zr p v).map ((az (zr p v) i)⁻¹ * ·)) (hrl : r.length = 6) :
    G (i + 1) (D.map (fun s => (⟨s.place, Rb.cleared p i r s.row⟩ : Rb.Step)) ++ [⟨i, r⟩]) (l.map fun w => Rb.cleared p i r w) F xs := by
  have azr : ∀ j, az (zr p r) j = (az (zr p v) i)⁻¹ * az (zr p v) j := fun j => by
    rw [hr, az_map]
  have r1 : az (zr p r) i = 1 := by
    rw [azr]
    grind
  have r0 : ∀ j, j < i → az (zr p r) j = 0 := fun j hj => by
    rw [azr, g.zero v hv j hj]
    grind
  have evr : ∀ u : Nat → Z p, ev u (zr p r) = (az (zr p v) i)⁻¹ * ev u (zr p v) := fun u => by
    unfold ev
    simp only [azr]
    grind
  have lD : ∀ s ∈ D, s.row.length = r.length := fun s hs => by rw [g.lenD s hs, hrl]
  have ll : ∀ w ∈ l, w.length = r.length := fun s hs => by rw [g.lenl s hs, hrl]
  have memD : ∀ s, s ∈ D.map (fun s => (⟨s.place, Rb.cleared p i r s.row⟩ : Rb.Step)) ++ [⟨i, r⟩] → (∃ t ∈ D, s = ⟨t.place, Rb.cleared p i r t.row⟩) ∨ s = ⟨i, r⟩ := fun s hs => by
    rcases List.mem_append.mp hs with q | q
    · obtain ⟨t, ht, rfl⟩ := List.mem_map.mp q
      exact .inl ⟨t, ht, rfl⟩
    · simp at q
      exact .inr q
  refine ⟨?_, ?_, ?_, ?_, ?_, ?_, ?_, g.nod, ?_, ?_, ?_⟩
  · intro s hs
    rcases memD s hs with ⟨t, ht, rfl⟩ | rfl
    · show (Rb.cleared p i r t.row).length = 6
      rw [cleared_len (lD t ht), g.lenD t ht]
    · exact hrl
  · intro w hw
    obtain ⟨w', hw', rfl⟩ := List.mem_map.mp hw
    rw [cleared_len (ll w' hw'), g.lenl w' hw']
  · intro u
    rw [← g.sol u]
    constructor
    · rintro ⟨h1, h2⟩
      have hr0 : ev u (zr p r) = 0 := h1 ⟨i, r⟩ (List.mem_append.mpr (.inr (by simp)))
      refine ⟨fun s hs => ?_, fun w hw => ?_⟩
      · have := h1 ⟨s.place, Rb.cleared p i r s.row⟩ (List.mem_append.mpr (.inl (List.mem_map.mpr ⟨s, hs, rfl⟩)))
        have this : ev u (zr p (Rb.cleared p i r s.row)) = 0 := this
        rw [ev_cleared (lD s hs), hr0] at this
        grind
      · have := h2 _ (List.mem_map.mpr ⟨w, hw, rfl⟩)
        rw [ev_cleared (ll w hw), hr0] at this
        grind
    · rintro ⟨h1, h2⟩
      have hr0 : ev u (zr p r) = 0 := by
        rw [evr, h2 v hv]
        grind
      refine ⟨fun s hs => ?_, fun w hw => ?_⟩
      · rcases memD s hs with ⟨t, ht, rfl⟩ | rfl
        · show ev u (zr p (Rb.cleared p i r t.row)) = 0
          rw [ev_cleared (lD t ht), hr0, h1 t ht]
          grind
        · exact hr0
      · obtain ⟨w', hw', rfl⟩ := List.mem_map.mp hw
        rw [ev_cleared (ll w' hw'), hr0, h2 w' hw']
        grind
  · intro w hw j hj
    obtain ⟨w', hw', rfl⟩ := List.mem_map.mp hw
    rw [az_cleared (ll w' hw')]
    by_cases q : j = i
    · rw [q, r1]
      grind
    · rw [g.zero w' hw' j (by omega), r0 j (by omega)]
      grind
  · intro s hs
    rcases memD s hs with ⟨t, ht, rfl⟩ | rfl
    · obtain ⟨h1, h2⟩ := g.piv t ht
      refine ⟨by show t.place < i + 1; omega, ?_⟩
      show az (zr p (Rb.cleared p i r t.row)) t.place = 1
      rw [az_cleared (lD t ht), h2, r0 _ h1]
      grind
    · exact ⟨by show i < i + 1; omega, r1⟩
  · intro s hs t ht hne
    rcases memD s hs with ⟨s', hs', rfl⟩ | rfl
    · rcases memD t ht with ⟨t', ht', rfl⟩ | rfl
      · show az (zr p (Rb.cleared p i r s'.row)) t'.place = 0
        rw [az_cleared (lD s' hs'), g.off s' hs' t' ht' hne, r0 _ (g.piv t' ht').1]
        grind
      · show az (zr p (Rb.cleared p i r s'.row)) i = 0
        rw [az_cleared (lD s' hs'), r1]
        grind
    · rcases memD t ht with ⟨t', ht', rfl⟩ | rfl
      · exact r0 _ (g.piv t' ht').1
      · exact (hne rfl).elim
  · intro s hs t ht he
    rcases memD s hs with ⟨s', hs', rfl⟩ | rfl
    · rcases memD t ht with ⟨t', ht', rfl⟩ | rfl
      · have : s' = t' := g.uniq s' hs' t' ht' he
        rw [this]
      · have h1 := (g.piv s' hs').1
        have h2 : s'.place = i := he
        omega
    · rcases memD t ht with ⟨t', ht', rfl⟩ | rfl
      · have h1 := (g.piv t' ht').1
        have h2 : i = t'.place := he
        omega
      · rfl
  · intro f hf
    obtain ⟨h1, h2⟩ := g.free f hf
    refine ⟨by omega, fun s hs => ?_⟩
    rcases memD s hs with ⟨t, ht, rfl⟩ | rfl
    · exact h2 t ht
    · show i ≠ f
      omega
  · intro j hj
    by_cases q : j = i
    · subst q
      exact .inr ⟨⟨j, r⟩, List.mem_append.mpr (.inr (by simp)), rfl⟩
    · rcases g.all j (by omega) with q | ⟨s, hs, e⟩
      · exact .inl q
      · exact .inr ⟨⟨s.place, Rb.cleared p i r s.row⟩, List.mem_append.mpr (.inl (List.mem_map.mpr ⟨s, hs, rfl⟩)), e⟩
  · have := g.cnt
    rw [List.length_append, List.length_map]
    simp
    omega
theorem G_all {xs : List (List (Z p))} : ∀ (n i : Nat) (D : List Rb.Step) (l : List (List Nat)) (F : List Nat), G i D l F xs → ∃ F' l', G (i + n) (Rb.stepsFrom p n i D l) l' F' xs
  | 0, i, D, l, F, g => ⟨F, l, g⟩
  | n + 1, i, D, l, F, g => by
    rw [show i + (n + 1) = i + 1 + n by omega]
    unfold Rb.stepsFrom
    cases e : l.find? (fun (v : List Nat) => Rb.at_ v i % p != 0) with
    | none =>
      refine G_all n (i + 1) D l (F ++ [i]) (G_skip g fun r hr => ?_)
      have := List.find?_eq_none.mp e r hr
      rw [az_zr, c_nat_zero]
      simpa using this
    | some v =>
      have hv := List.mem_of_find?_eq_some e
      have hi := List.find?_some e
      have hi : az (zr p v) i ≠ 0 := by
        rw [az_zr, ne_eq, c_nat_zero]
        simpa using hi
      refine G_all n (i + 1) _ _ F (G_step g hv hi ?_ ?_)
      · rw [az_zr, ← c_undo]
        unfold zr
        rw [List.map_map, List.map_map]
        refine List.map_congr_left fun x _ => ?_
        show c p ((x % p * Rb.undo p (Rb.at_ v i) % p : Nat) : Int) = c p (Rb.undo p (Rb.at_ v i) : Nat) * c p (x : Int)
        rw [c_nmod, c_nmul, c_nmod]
        grind
      · rw [List.length_map, g.lenl v hv]
theorem sum6 {T : Nat → Z p} {f g : Nat} (hf : f < 6) (hg : g < 6) (ne : f ≠ g) (h : ∀ i, i < 6 → i ≠ f → i ≠ g → T i = 0) : T 0 + T 1 + T 2 + T 3 + T 4 + T 5 = T f + T g := by
  have h0 := h 0 (by omega)
  have h1 := h 1 (by omega)
  have h2 := h 2 (by omega)
  have h3 := h 3 (by omega)
  have h4 := h 4 (by omega)
  have h5 := h 5 (by omega)
  have c1 : f = 0 ∨ f = 1 ∨ f = 2 ∨ f = 3 ∨ f = 4 ∨ f = 5 := by omega
  have c2 : g = 0 ∨ g = 1 ∨ g = 2 ∨ g = 3 ∨ g = 4 ∨ g = 5 := by omega
  rcases c1 with rfl | rfl | rfl | rfl | rfl | rfl <;> rcases c2 with rfl | rfl | rfl | rfl | rfl | rfl <;> first
    | exact (ne rfl).elim
    | (simp at h0 h1 h2 h3 h4 h5; simp only [h0, h1, h2, h3, h4, h5]; grind)
def wf (D : List Rb.Step) (f i : Nat) : Z p := if i = f then 1 else match D.find? (fun (z : Rb.Step) => z.place == i) with
  | some z => - az (zr p z.row) f
  | none => 0
theorem wf_self (D : List Rb.Step) (f : Nat) : wf (p := p) D f f = 1 := if_pos rfl
theorem find_place {D : List Rb.Step} (uniq : ∀ s ∈ D, ∀ t ∈ D, s.place = t.place → s = t) {s : Rb.Step} (hs : s ∈ D) : D.find? (fun (z : Rb.Step) => z.place == s.place) = some s := by
  cases e : D.find? (fun (z : Rb.Step) => z.place == s.place) with
  | none =>
    have := List.find?_eq_none.mp e s hs
    simp at this
  | some z =>
    have h1 := List.mem_of_find?_eq_some e
    have h2 := List.find?_some e
    rw [uniq z h1 s hs (by simpa using h2)]
section
variable {D : List Rb.Step} {l : List (List Nat)} {F : List Nat} {xs : List (List (Z p))}
theorem wf_piv (g : G 6 D l F xs) {f : Nat} (hf : f ∈ F) {s : Rb.Step} (hs : s ∈ D) : wf (p := p) D f s.place = - az (zr p s.row) f := by
  unfold wf
  rw [if_neg ((g.free f hf).2 s hs), find_place g.uniq hs]
theorem wf_free (g : G 6 D l F xs) {f i : Nat} (hi : i ∈ F) (ne : i ≠ f) : wf (p := p) D f i = 0 := by
  unfold wf
  have : D.find? (fun (z : Rb.Step) => z.place == i) = none := by
    rw [List.find?_eq_none]
    intro s hs
    have := (g.free i hi).2 s hs
    simpa using this
  rw [if_neg ne, this]
theorem l_zero (g : G 6 D l F xs) (v : Nat → Z p) : ∀ r ∈ l, ev v (zr p r) = 0 := fun r hr => by
  unfold ev
  rw [g.zero r hr 0 (by omega), g.zero r hr 1 (by omega), g.zero r hr 2 (by omega), g.zero r hr 3 (by omega), g.zero r hr 4 (by omega), g.zero r hr 5 (by omega)]
  grind
theorem sol_iff (g : G 6 D l F xs) (v : Nat → Z p) : (∀ m ∈ xs, ev v m = 0) ↔ ∀ s ∈ D, ev v (zr p s.row) = 0 := by
  rw [← g.sol v]
  exact ⟨fun h => h.1, fun h => ⟨h, l_zero g v⟩⟩
theorem wf_sol (g : G 6 D l F xs) {f : Nat} (hf : f ∈ F) : ∀ m ∈ xs, ev (wf D f) m = 0 := by
  rw [sol_iff g]
  intro s hs
  obtain ⟨h1, h2⟩ := g.piv s hs
  have h3 := (g.free f hf).1
  have h4 := (g.free f hf).2 s hs
  have e := sum6 (T := fun i => wf D f i * az (zr p s.row) i) h1 h3 h4 fun i hi n1 n2 => by
    rcases g.all i hi with q | ⟨t, ht, q⟩
    · show wf D f i * _ = 0
      rw [wf_free g q n2]
      grind
    · show _ * az (zr p s.row) i = 0
      rw [← q, g.off s hs t ht (by rw [q]; exact fun e => n1 e.symm)]
      grind
  show wf D f 0 * _ + wf D f 1 * _ + wf D f 2 * _ + wf D f 3 * _ + wf D f 4 * _ + wf D f 5 * _ = 0
  have e : wf D f 0 * az (zr p s.row) 0 + wf D f 1 * az (zr p s.row) 1 + wf D f 2 * az (zr p s.row) 2 + wf D f 3 * az (zr p s.row) 3 + wf D f 4 * az (zr p s.row) 4 + wf D f 5 * az (zr p s.row) 5 = wf D f s.place * az (zr p s.row) s.place + wf D f f * az (zr p s.row) f := e
  rw [e, wf_piv g hf hs, h2, wf_self]
  grind
theorem one_free (g : G 6 D l [f] xs) (v : Nat → Z p) (h : ∀ m ∈ xs, ev v m = 0) : ∀ i, i < 6 → v i = v f * wf D f i := by
  rw [sol_iff g] at h
  intro i hi
  rcases g.all i hi with q | ⟨s, hs, q⟩
  · simp at q
    rw [q, wf_self]
    grind
  · have hf : f ∈ [f] := by simp
    obtain ⟨h1, h2⟩ := g.piv s hs
    have h3 := (g.free f hf).1
    have h4 := (g.free f hf).2 s hs
    have e := sum6 (T := fun i => v i * az (zr p s.row) i) h1 h3 h4 fun j hj n1 n2 => by
      rcases g.all j hj with q' | ⟨t, ht, q'⟩
      · simp at q'
        exact (n2 q').elim
      · show _ * az (zr p s.row) j = 0
        rw [← q', g.off s hs t ht (by rw [q']; exact fun e => n1 e.symm)]
        grind
    have e : v 0 * az (zr p s.row) 0 + v 1 * az (zr p s.row) 1 + v 2 * az (zr p s.row) 2 + v 3 * az (zr p s.row) 3 + v 4 * az (zr p s.row) 4 + v 5 * az (zr p s.row) 5 = v s.place * az (zr p s.row) s.place + v f * az (zr p s.row) f := e
    have e0 : v 0 * az (zr p s.row) 0 + v 1 * az (zr p s.row) 1 + v 2 * az (zr p s.row) 2 + v 3 * az (zr p s.row) 3 + v 4 * az (zr p s.row) 4 + v 5 * az (zr p s.row) 5 = 0 := h s hs
    rw [e, h2] at e0
    rw [← q, wf_piv g hf hs]
    grind
theorem no_free (g : G 6 D l [] xs) (v : Nat → Z p) (h : ∀ m ∈ xs, ev v m = 0) : ∀ i, i < 6 → v i = 0 := by
  rw [sol_iff g] at h
  intro i hi
  rcases g.all i hi with q | ⟨s, hs, q⟩
  · cases q
  · obtain ⟨h1, h2⟩ := g.piv s hs
    have hg : ∃ k, k < 6 ∧ s.place ≠ k := by
      by_cases z : s.place = 0
      · exact ⟨1, by omega, by omega⟩
      · exact ⟨0, by omega, z⟩
    obtain ⟨k, hk, hne⟩ := hg
    have az0 : ∀ j, j < 6 → j ≠ s.place → az (zr p s.row) j = 0 := fun j hj n1 => by
      rcases g.all j hj with q' | ⟨t, ht, q'⟩
      · cases q'
      · rw [← q']
        exact g.off s hs t ht (by rw [q']; exact fun e => n1 e.symm)
    have e := sum6 (T := fun i => v i * az (zr p s.row) i) h1 hk hne fun j hj n1 n2 => by
      show _ * az (zr p s.row) j = 0
      rw [az0 j hj n1]
      grind
    have e : v 0 * az (zr p s.row) 0 + v 1 * az (zr p s.row) 1 + v 2 * az (zr p s.row) 2 + v 3 * az (zr p s.row) 3 + v 4 * az (zr p s.row) 4 + v 5 * az (zr p s.row) 5 = v s.place * az (zr p s.row) s.place + v k * az (zr p s.row) k := e
    have e0 : v 0 * az (zr p s.row) 0 + v 1 * az (zr p s.row) 1 + v 2 * az (zr p s.row) 2 + v 3 * az (zr p s.row) 3 + v 4 * az (zr p s.row) 4 + v 5 * az (zr p s.row) 5 = 0 := h s hs
    rw [e, h2, az0 k hk fun q => hne q.symm] at e0
    rw [← q]
    grind
end
end
end Pb
end
section
set_option Elab.async false
set_option linter.all false
set_option maxRecDepth 100000
set_option maxHeartbeats 1000000
namespace Pb
open L2 Dn Z
open PySem.W (WData)
open WrraybNeutral (nats told rowT)
section
variable {p : Nat} [P : Pr p]
theorem map_range {α : Type} (d : α) : ∀ l : List α, (List.range l.length).map (fun j => l.getD j d) = l
  | [] => rfl
  | a :: l => by
    have ih := map_range d l
    rw [List.length_cons, List.range_succ_eq_map, List.map_cons, List.map_map]
    show a :: (List.range l.length).map (fun j => l.getD j d) = _
    rw [ih]
theorem pick {α : Type} (d : α) (L R : List α) (b : α) : ((List.range (L ++ b :: R).length).filter (fun (j : Nat) => !decide ((j : Int) = (L.length : Int)))).map (fun j => (L ++ b :: R).getD j d) = L ++ R := by
  have e1 : (L ++ b :: R).length = L.length + (1 + R.length) := by simp; omega
  rw [e1, List.range_add, List.range_add, List.map_append, List.filter_append, List.filter_append, List.map_append, List.map_append]
  have f1 : (List.range L.length).filter (fun (j : Nat) => !decide ((j : Int) = (L.length : Int))) = List.range L.length := by
    rw [List.filter_eq_self]
    intro j hj
    have := List.mem_range.mp hj
    simp
    omega
  have f2 : ((List.range 1).map fun x => L.length + x).filter (fun (j : Nat) => !decide ((j : Int) = (L.length : Int))) = [] := by
    simp [List.range, List.range.loop]
  have f3 : (((List.range R.length).map fun x => 1 + x).map fun x => L.length + x).filter (fun (j : Nat) => !decide ((j : Int) = (L.length : Int))) = ((List.range R.length).map fun x => 1 + x).map fun x => L.length + x := by
    rw [List.filter_eq_self]
    intro j hj
    simp at hj ⊢
    omega
  rw [f1, f2, f3, List.map_nil, List.nil_append, List.map_map, List.map_map]
  congr 1
  · conv => rhs; rw [← map_range d L]
    refine List.map_congr_left fun j hj => ?_
    have := List.mem_range.mp hj
    rw [List.getD_eq_getElem?_getD, List.getD_eq_getElem?_getD, List.getElem?_append_left this]
  · conv => rhs; rw [← map_range d R]
    refine List.map_congr_left fun j hj => ?_
    show (L ++ b :: R).getD (L.length + (1 + j)) d = _
    rw [List.getD_eq_getElem?_getD, List.getD_eq_getElem?_getD, List.getElem?_append_right (by omega), show L.length + (1 + j) - L.length = j + 1 by omega, List.getElem?_cons_succ]
theorem narrow_step {bs : List (List Int)} {xs : List (List (Z p))} (I : Inv6 (bs.map (zi p)) xs) (hb : ∀ b ∈ bs, b.length = 6 ∧ Bd b) (hl : bs.length ≤ 6) {x : List Int} (hx : x.length = 3) (bx : Bd x) :
    ∃ bs', d_narrowed [.int p, rL bs, iL x] = some (rL bs') ∧ Inv6 (bs'.map (zi p)) (monZ (zi p x) :: xs) ∧ (∀ b ∈ bs', b.length = 6 ∧ Bd b) ∧ bs'.length ≤ 6 := by
  have hxz : (zi p x).length = 3 := by rw [zi_len, hx]
  have vev : ∀ b ∈ bs, valZ (zi p b) (zi p x) = ev (az (zi p b)) (monZ (zi p x)) := fun b hb' => val_ev (by rw [zi_len, (hb b hb').1]) hxz
  have e1 : ∀ w3 w4 w5 : Option Sl, lcGo 6 [some (.val (.int p)), some (.val (rL bs)), some (.val (iL x)), w3, w4, w5, none, none] dYes (dCall d_value_at (dCons (dVar 0) (dCons (dVar 6) (dCons (dVar 2) dNil)))) (bs.map iL) = some ((lift (bs.map fun b => valZ (zi p b) (zi p x))).map .int) := fun w3 w4 w5 => by
    have : (lift (bs.map fun b => valZ (zi p b) (zi p x))).map WData.int = bs.map fun b => .int (valZ (zi p b) (zi p x)).v := by
      unfold lift
      rw [List.map_map, List.map_map]
      rfl
    rw [this]
    refine lcGo_map _ _ fun b hb' => ?_
    have e := d_value_at_eq (p := p) (k := b) (x := x) (hb b hb').1 hx (hb b hb').2 bx
    simp only [body, initR, sNil, sBreak, sCont, sSeq, sRet, sRetN, sIf, sSet, sOwn, sPut, sAug, sFor, sForT, sForR_eq, dVar, dC, dOp, hAdd_ii, hSub_ii, hMul_ii, hMod_ii, hDiv_ii, hLt_ii, hLe_ii, hGt_ii, hGe_ii, hEq_ii, hNe_ii, dNeg, hInT, hInL, hIx_iL, hIx_rL, fLen_iL, fLen_rL, cat_iL, cat_rL, cut_iL, hEqL_iL, rfold1, rfold2, rfold3, rfold4, rfold5, rfold8, foldc, foldcc, fold0, fold1, fold2, fold3, fold6, fold9, foldL, foldR, lcL_iL, lcL_rL, dIxO, dTest, dAnd, dOr, dNot, dAndV, dOrV, dNotV, dIf, dNil, dCons, dL, dTup, dCall, dLc_eq, dYes, dCat_eq, freeze, wipeR, atc_0, atc_1, atc_2, atc_3, atc_4, atc_5, atc_6, atc_7, atc_8, List.map_cons, List.map_nil, List.length_cons, List.length_nil, List.replicate, List.cons_append, List.nil_append, List.append_nil, List.getElem?_cons_zero, List.getElem?_cons_succ, List.getElem?_nil, List.set_cons_zero, List.set_cons_succ, List.set_nil, Option.bind_some, Option.map_some, Option.bind_none, Option.map_none, if_true, if_false, Bool.false_eq_true, Nat.reduceAdd, Nat.reduceSub, List.length_map, intsOf_ints, Bool.not_true, Bool.not_false, decide_true, decide_false, Function.comp, dMeth, dNew, dCut, dRep, dLcR_eq, fListOf_t, e]
  have e2 := d_first_not_zero_eq (p := p) (lift (bs.map fun b => valZ (zi p b) (zi p x)))
  rw [zi_lift] at e2
  have hlt : bs.length < 16777216 := by omega
  by_cases hz : leadZ (bs.map fun b => valZ (zi p b) (zi p x)) = 0
  · refine ⟨bs, ?_, inv_same I fun b hb' => ?_, hb, hl⟩
    · simp only [hz, v_zero] at e2
      simp only [d_narrowed, body, initR, sNil, sBreak, sCont, sSeq, sRet, sRetN, sIf, sSet, sOwn, sPut, sAug, sFor, sForT, sForR_eq, dVar, dC, dOp, hAdd_ii, hSub_ii, hMul_ii, hMod_ii, hDiv_ii, hLt_ii, hLe_ii, hGt_ii, hGe_ii, hEq_ii, hNe_ii, dNeg, hInT, hInL, hIx_iL, hIx_rL, fLen_iL, fLen_rL, cat_iL, cat_rL, cut_iL, hEqL_iL, rfold1, rfold2, rfold3, rfold4, rfold5, rfold8, foldc, foldcc, fold0, fold1, fold2, fold3, fold6, fold9, foldL, foldR, lcL_iL, lcL_rL, dIxO, dTest, dAnd, dOr, dNot, dAndV, dOrV, dNotV, dIf, dNil, dCons, dL, dTup, dCall, dLc_eq, dYes, dCat_eq, freeze, wipeR, atc_0, atc_1, atc_2, atc_3, atc_4, atc_5, atc_6, atc_7, atc_8, List.map_cons, List.map_nil, List.length_cons, List.length_nil, List.replicate, List.cons_append, List.nil_append, List.append_nil, List.getElem?_cons_zero, List.getElem?_cons_succ, List.getElem?_nil, List.set_cons_zero, List.set_cons_succ, List.set_nil, Option.bind_some, Option.map_some, Option.bind_none, Option.map_none, if_true, if_false, Bool.false_eq_true, Nat.reduceAdd, Nat.reduceSub, List.length_map, intsOf_ints, Bool.not_true, Bool.not_false, decide_true, decide_false, Function.comp, dMeth, dNew, dCut, dRep, dLcR_eq, fListOf_t, hlt, e1, e2]
    · obtain ⟨b', hb2, rfl⟩ := List.mem_map.mp hb'
      rw [← vev b' hb2]
      exact lead_all hz _ (List.mem_map.mpr ⟨b', hb2, rfl⟩)
  · have hm : (leadZ (bs.map fun b => valZ (zi p b) (zi p x))).v ∈ lift (bs.map fun b => valZ (zi p b) (zi p x)) := List.mem_map.mpr ⟨_, lead_mem hz, rfl⟩
    have e3 : hIdxI (iL (lift (bs.map fun b => valZ (zi p b) (zi p x)))) [.int (leadZ (bs.map fun b => valZ (zi p b) (zi p x))).v] = some (.int (((lift (bs.map fun b => valZ (zi p b) (zi p x))).idxOf (leadZ (bs.map fun b => valZ (zi p b) (zi p x))).v : Nat) : Int)) := hIdxI_i hm
    have hi := List.idxOf_lt_length_of_mem hm
    have hg : (lift (bs.map fun b => valZ (zi p b) (zi p x)))[(lift (bs.map fun b => valZ (zi p b) (zi p x))).idxOf (leadZ (bs.map fun b => valZ (zi p b) (zi p x))).v]? = some (leadZ (bs.map fun b => valZ (zi p b) (zi p x))).v := by rw [List.getElem?_eq_getElem hi, List.getElem_idxOf hi]
    generalize (lift (bs.map fun b => valZ (zi p b) (zi p x))).idxOf (leadZ (bs.map fun b => valZ (zi p b) (zi p x))).v = i at e3 hi hg
    rw [lift_len, List.length_map] at hi
    have hs : bs = bs.take i ++ bs[i] :: bs.drop (i + 1) := by rw [← List.drop_eq_getElem_cons hi, List.take_append_drop]
    have hil : (bs.take i).length = i := by rw [List.length_take]; omega
    have hlead : valZ (zi p bs[i]) (zi p x) = leadZ (bs.map fun b => valZ (zi p b) (zi p x)) := by
      unfold lift at hg
      rw [List.getElem?_map, List.getElem?_map, List.getElem?_eq_getElem hi] at hg
      exact Z.ext (Option.some.inj hg)
    generalize hL : leadZ (bs.map fun b => valZ (zi p b) (zi p x)) = ld at *
    have hbi := hb bs[i] (List.getElem_mem hi)
    have hp := p_le (p := p)
    have gz : ∀ z : Z p, 0 ≤ z.v ∧ z.v < 31 := fun z => by
      have h0 := v_nonneg z
      have h1 := v_lt z
      omega
    have a1 : ∀ j, j < bs.length → atI (bs.map iL) (j : Int) = some (iL (bs.getD j [])) := by
      intro j hj
      unfold atI ixN
      rw [if_pos (by omega), if_pos (by rw [List.length_map]; omega), Option.bind_some, Int.toNat_natCast, List.getElem?_map, List.getElem?_eq_getElem hj, List.getD_eq_getElem?_getD, List.getElem?_eq_getElem hj]
      rfl
    have a2 : ∀ j, j < bs.length → atI ((lift (bs.map fun b => valZ (zi p b) (zi p x))).map WData.int) (j : Int) = some (.int (valZ (zi p (bs.getD j [])) (zi p x)).v) := by
      intro j hj
      rw [at_lift (by rw [List.length_map]; exact hj)]
      unfold az
      rw [List.getD_eq_getElem?_getD, List.getElem?_map, List.getElem?_eq_getElem hj, List.getD_eq_getElem?_getD, List.getElem?_eq_getElem hj]
      rfl
    have gi : bs.getD i [] = bs[i] := by rw [List.getD_eq_getElem?_getD, List.getElem?_eq_getElem hi]; rfl
    have e4 : lcGo 7 [some (.val (.int p)), some (.val (rL bs)), some (.val (iL x)), some (.val (iL (lift (bs.map fun b => valZ (zi p b) (zi p x))))), some (.val (.int ld.v)), some (.val (.int (i : Int))), none, none] (dTest (dOp hNe (dVar 7) (dVar 5))) (dCall d_mixed (dCons (dVar 0) (dCons (dVar 4) (dCons (dOp hIx (dVar 1) (dVar 7)) (dCons (dNeg (dOp hIx (dVar 3) (dVar 7))) (dCons (dOp hIx (dVar 1) (dVar 5)) dNil)))))) (rng 0 bs.length) = some (((List.range bs.length).filter (fun (j : Nat) => !decide ((j : Int) = (i : Int)))).map fun j => iL (lift (mixZ ld (-(valZ (zi p (bs.getD j [])) (zi p x))) (zi p (bs.getD j [])) (zi p bs[i])))) := by
      rw [rng_map]
      refine lcGo_filter _ _ _ (fun j hj => ?_) (fun j hj _ => ?_)
      · simp only [body, initR, sNil, sBreak, sCont, sSeq, sRet, sRetN, sIf, sSet, sOwn, sPut, sAug, sFor, sForT, sForR_eq, dVar, dC, dOp, hAdd_ii, hSub_ii, hMul_ii, hMod_ii, hDiv_ii, hLt_ii, hLe_ii, hGt_ii, hGe_ii, hEq_ii, hNe_ii, dNeg, hInT, hInL, hIx_iL, hIx_rL, fLen_iL, fLen_rL, cat_iL, cat_rL, cut_iL, hEqL_iL, rfold1, rfold2, rfold3, rfold4, rfold5, rfold8, foldc, foldcc, fold0, fold1, fold2, fold3, fold6, fold9, foldL, foldR, lcL_iL, lcL_rL, dIxO, dTest, dAnd, dOr, dNot, dAndV, dOrV, dNotV, dIf, dNil, dCons, dL, dTup, dCall, dLc_eq, dYes, dCat_eq, freeze, wipeR, atc_0, atc_1, atc_2, atc_3, atc_4, atc_5, atc_6, atc_7, atc_8, List.map_cons, List.map_nil, List.length_cons, List.length_nil, List.replicate, List.cons_append, List.nil_append, List.append_nil, List.getElem?_cons_zero, List.getElem?_cons_succ, List.getElem?_nil, List.set_cons_zero, List.set_cons_succ, List.set_nil, Option.bind_some, Option.map_some, Option.bind_none, Option.map_none, if_true, if_false, Bool.false_eq_true, Nat.reduceAdd, Nat.reduceSub, List.length_map, intsOf_ints, Bool.not_true, Bool.not_false, decide_true, decide_false, Function.comp, dMeth, dNew, dCut, dRep, dLcR_eq, fListOf_t]
      · have hj := List.mem_range.mp hj
        have gj : bs.getD j [] = bs[j] := by rw [List.getD_eq_getElem?_getD, List.getElem?_eq_getElem hj]; rfl
        have hbj := hb bs[j] (List.getElem_mem hj)
        have gv := gz (valZ (zi p (bs.getD j [])) (zi p x))
        have gl := gz ld
        have mx := d_mixed_eq (p := p) (s := ld.v) (t := -(valZ (zi p (bs.getD j [])) (zi p x)).v) (x := bs.getD j []) (y := bs[i]) (Y := iL bs[i]) (fun i => hIx_iL _ i) (by rw [gj, hbj.1, hbi.1]) (by rw [gj, hbj.1]; omega) (by omega) (by omega) (by omega) (by omega)
        rw [c_v, c_neg, c_v] at mx
        have q2 := a1 i hi
        rw [gi] at q2
        simp only [body, initR, sNil, sBreak, sCont, sSeq, sRet, sRetN, sIf, sSet, sOwn, sPut, sAug, sFor, sForT, sForR_eq, dVar, dC, dOp, hAdd_ii, hSub_ii, hMul_ii, hMod_ii, hDiv_ii, hLt_ii, hLe_ii, hGt_ii, hGe_ii, hEq_ii, hNe_ii, dNeg, hInT, hInL, hIx_iL, hIx_rL, fLen_iL, fLen_rL, cat_iL, cat_rL, cut_iL, hEqL_iL, rfold1, rfold2, rfold3, rfold4, rfold5, rfold8, foldc, foldcc, fold0, fold1, fold2, fold3, fold6, fold9, foldL, foldR, lcL_iL, lcL_rL, dIxO, dTest, dAnd, dOr, dNot, dAndV, dOrV, dNotV, dIf, dNil, dCons, dL, dTup, dCall, dLc_eq, dYes, dCat_eq, freeze, wipeR, atc_0, atc_1, atc_2, atc_3, atc_4, atc_5, atc_6, atc_7, atc_8, List.map_cons, List.map_nil, List.length_cons, List.length_nil, List.replicate, List.cons_append, List.nil_append, List.append_nil, List.getElem?_cons_zero, List.getElem?_cons_succ, List.getElem?_nil, List.set_cons_zero, List.set_cons_succ, List.set_nil, Option.bind_some, Option.map_some, Option.bind_none, Option.map_none, if_true, if_false, Bool.false_eq_true, Nat.reduceAdd, Nat.reduceSub, List.length_map, intsOf_ints, Bool.not_true, Bool.not_false, decide_true, decide_false, Function.comp, dMeth, dNew, dCut, dRep, dLcR_eq, fListOf_t, a1 j hj, a2 j hj, q2, mx]
    have e5 : ((List.range bs.length).filter (fun (j : Nat) => !decide ((j : Int) = (i : Int)))).map (fun j => iL (lift (mixZ ld (-(valZ (zi p (bs.getD j [])) (zi p x))) (zi p (bs.getD j [])) (zi p bs[i])))) = ((bs.take i ++ bs.drop (i + 1)).map fun q => lift (mixZ ld (-(valZ (zi p q) (zi p x))) (zi p q) (zi p bs[i]))).map iL := by
      have := pick ([] : List Int) (bs.take i) (bs.drop (i + 1)) bs[i]
      rw [← hs, hil] at this
      rw [← this, List.map_map, List.map_map]
      rfl
    rw [e5] at e4
    have hq : ∀ q ∈ bs.take i ++ bs.drop (i + 1), q ∈ bs := fun q hq => by
      rcases List.mem_append.mp hq with h | h
      · exact List.mem_of_mem_take h
      · exact List.mem_of_mem_drop h
    refine ⟨(bs.take i ++ bs.drop (i + 1)).map fun q => lift (mixZ ld (-(valZ (zi p q) (zi p x))) (zi p q) (zi p bs[i])), ?_, ?_, ?_, ?_⟩
    · have hz' : ¬ ld.v = 0 := fun q => hz (v_ne.mp q)
      have t1 : ((bs.length : Nat) : Int).toNat = bs.length := by omega
      simp only [d_narrowed, body, initR, sNil, sBreak, sCont, sSeq, sRet, sRetN, sIf, sSet, sOwn, sPut, sAug, sFor, sForT, sForR_eq, dVar, dC, dOp, hAdd_ii, hSub_ii, hMul_ii, hMod_ii, hDiv_ii, hLt_ii, hLe_ii, hGt_ii, hGe_ii, hEq_ii, hNe_ii, dNeg, hInT, hInL, hIx_iL, hIx_rL, fLen_iL, fLen_rL, cat_iL, cat_rL, cut_iL, hEqL_iL, rfold1, rfold2, rfold3, rfold4, rfold5, rfold8, foldc, foldcc, fold0, fold1, fold2, fold3, fold6, fold9, foldL, foldR, lcL_iL, lcL_rL, dIxO, dTest, dAnd, dOr, dNot, dAndV, dOrV, dNotV, dIf, dNil, dCons, dL, dTup, dCall, dLc_eq, dYes, dCat_eq, freeze, wipeR, atc_0, atc_1, atc_2, atc_3, atc_4, atc_5, atc_6, atc_7, atc_8, List.map_cons, List.map_nil, List.length_cons, List.length_nil, List.replicate, List.cons_append, List.nil_append, List.append_nil, List.getElem?_cons_zero, List.getElem?_cons_succ, List.getElem?_nil, List.set_cons_zero, List.set_cons_succ, List.set_nil, Option.bind_some, Option.map_some, Option.bind_none, Option.map_none, if_true, if_false, Bool.false_eq_true, Nat.reduceAdd, Nat.reduceSub, List.length_map, intsOf_ints, Bool.not_true, Bool.not_false, decide_true, decide_false, Function.comp, dMeth, dNew, dCut, dRep, dLcR_eq, fListOf_t, hlt, e1, e2, e3, hz', lcRs_1 (j := (bs.length : Int)) (by omega) (by omega), t1, e4]
    · have I2 := I
      rw [hs, List.map_append, List.map_cons] at I2
      have hn : ev (az (zi p bs[i])) (monZ (zi p x)) = ld := by rw [← vev _ (List.getElem_mem hi), hlead]
      have I3 := inv_narrow I2 (m := monZ (zi p x)) (by rw [hn]; exact hz)
      rw [hn, ← List.map_append, List.map_map] at I3
      rw [List.map_map]
      have : (bs.take i ++ bs.drop (i + 1)).map (zi p ∘ fun q => lift (mixZ ld (-(valZ (zi p q) (zi p x))) (zi p q) (zi p bs[i]))) = (bs.take i ++ bs.drop (i + 1)).map ((fun q => mixZ ld (-(ev (az q) (monZ (zi p x)))) q (zi p bs[i])) ∘ zi p) := by
        refine List.map_congr_left fun q hq' => ?_
        show zi p (lift _) = mixZ ld (-(ev (az (zi p q)) (monZ (zi p x)))) (zi p q) (zi p bs[i])
        rw [zi_lift, vev q (hq q hq')]
      rw [this]
      exact I3
    · intro b hb'
      obtain ⟨q, hq', rfl⟩ := List.mem_map.mp hb'
      refine ⟨?_, bd_lift _⟩
      rw [lift_len, mixZ_len (by rw [zi_len, zi_len, (hb q (hq q hq')).1, hbi.1]), zi_len, (hb q (hq q hq')).1]
    · rw [List.length_map, List.length_append, List.length_take, List.length_drop]
      omega
def units : List (List Int) := [[1, 0, 0, 0, 0, 0], [0, 1, 0, 0, 0, 0], [0, 0, 1, 0, 0, 0], [0, 0, 0, 1, 0, 0], [0, 0, 0, 0, 1, 0], [0, 0, 0, 0, 0, 1]]
theorem rep0 {n : Nat} (h : n < 1000) : hRep [.int 0] (.int (n : Int)) = some ((List.replicate n (0 : Int)).map .int) := by
  rw [hRep_i (by omega) (by omega) (by simp)]
  congr 1
  rw [Int.toNat_natCast]
  induction n with
  | zero => rfl
  | succ n ih => rw [List.replicate_succ, List.flatten_cons, ih (by omega), List.replicate_succ, List.map_cons]; rfl
theorem lc_units (ρ : Rho) (h8 : ∀ d, (ρ.set 8 (some (.val d)))[8]? = some (some (.val d))) : lcGo 8 ρ dYes (dL (dCat (dL (dCat (dL (dRep (dCons (dC (.int 0)) dNil) (dVar 8))) (dL (dCons (dC (.int 1)) dNil)))) (dL (dRep (dCons (dC (.int 0)) dNil) (dOp hSub (dC (.int 5)) (dVar 8)))))) (rng 0 6) = some (units.map iL) := by
  have e : units.map iL = (List.range 6).map fun (i : Nat) => iL (List.replicate i (0 : Int) ++ [1] ++ List.replicate (5 - i) (0 : Int)) := rfl
  rw [e, rng_map]
  refine lcGo_map _ _ fun i hi => ?_
  have hi := List.mem_range.mp hi
  have e8 : dVar 8 (ρ.set 8 (some (.val (.int (i : Int))))) = some (.int (i : Int)) := by
    unfold dVar
    rw [h8]
  have es : (5 : Int) - (i : Int) = ((5 - i : Nat) : Int) := by omega
  have l1 : (List.replicate i (0 : Int)).length + [(1 : Int)].length ≤ 16777216 := by simp; omega
  have l2 : (List.replicate i (0 : Int) ++ [1]).length + (List.replicate (5 - i) (0 : Int)).length ≤ 16777216 := by simp; omega
  have s5 : hSub (.int 5) (.int (i : Int)) = some (.int ((5 - i : Nat) : Int)) := by rw [hSub_ii, es]
  simp only [dL, dCat_eq, dRep, dCons, dNil, dC, dOp, e8, Option.bind_some, Option.map_some, s5, rep0 (n := i) (by omega), rep0 (n := 5 - i) (by omega), fold1, foldL, cat_iL l1, cat_iL l2]
theorem units_inv : Inv6 (units.map (zi p)) [] := by
  have e0 : c p (0 : Int) = 0 := rfl
  have e1 : c p (1 : Int) = 1 := rfl
  have eu : units.map (zi p) = [[1, 0, 0, 0, 0, 0], [0, 1, 0, 0, 0, 0], [0, 0, 1, 0, 0, 0], [0, 0, 0, 1, 0, 0], [0, 0, 0, 0, 1, 0], [0, 0, 0, 0, 0, 1]] := by
    simp only [units, List.map_cons, List.map_nil, zi_cons, zi_nil, e0, e1]
  rw [eu]
  have cu : ∀ (a b d e f g : Z p) (i : Nat), comb [a, b, d, e, f, g] [[1, 0, 0, 0, 0, 0], [0, 1, 0, 0, 0, 0], [0, 0, 1, 0, 0, 0], [0, 0, 0, 1, 0, 0], [0, 0, 0, 0, 1, 0], [0, 0, 0, 0, 0, 1]] i = a * az [1, 0, 0, 0, 0, 0] i + (b * az [0, 1, 0, 0, 0, 0] i + (d * az [0, 0, 1, 0, 0, 0] i + (e * az [0, 0, 0, 1, 0, 0] i + (f * az [0, 0, 0, 0, 1, 0] i + (g * az [0, 0, 0, 0, 0, 1] i + 0))))) := fun _ _ _ _ _ _ _ => rfl
  have at6 : ∀ (a b d e f g : Z p), comb [a, b, d, e, f, g] [[1, 0, 0, 0, 0, 0], [0, 1, 0, 0, 0, 0], [0, 0, 1, 0, 0, 0], [0, 0, 0, 1, 0, 0], [0, 0, 0, 0, 1, 0], [0, 0, 0, 0, 0, 1]] 0 = a ∧ comb [a, b, d, e, f, g] [[1, 0, 0, 0, 0, 0], [0, 1, 0, 0, 0, 0], [0, 0, 1, 0, 0, 0], [0, 0, 0, 1, 0, 0], [0, 0, 0, 0, 1, 0], [0, 0, 0, 0, 0, 1]] 1 = b ∧ comb [a, b, d, e, f, g] [[1, 0, 0, 0, 0, 0], [0, 1, 0, 0, 0, 0], [0, 0, 1, 0, 0, 0], [0, 0, 0, 1, 0, 0], [0, 0, 0, 0, 1, 0], [0, 0, 0, 0, 0, 1]] 2 = d ∧ comb [a, b, d, e, f, g] [[1, 0, 0, 0, 0, 0], [0, 1, 0, 0, 0, 0], [0, 0, 1, 0, 0, 0], [0, 0, 0, 1, 0, 0], [0, 0, 0, 0, 1, 0], [0, 0, 0, 0, 0, 1]] 3 = e ∧ comb [a, b, d, e, f, g] [[1, 0, 0, 0, 0, 0], [0, 1, 0, 0, 0, 0], [0, 0, 1, 0, 0, 0], [0, 0, 0, 1, 0, 0], [0, 0, 0, 0, 1, 0], [0, 0, 0, 0, 0, 1]] 4 = f ∧ comb [a, b, d, e, f, g] [[1, 0, 0, 0, 0, 0], [0, 1, 0, 0, 0, 0], [0, 0, 1, 0, 0, 0], [0, 0, 0, 1, 0, 0], [0, 0, 0, 0, 1, 0], [0, 0, 0, 0, 0, 1]] 5 = g := fun a b d e f g => by
    simp only [cu, az, List.getD_cons_zero, List.getD_cons_succ]
    refine ⟨by grind, by grind, by grind, by grind, by grind, by grind⟩
  refine ⟨?_, by simp, by simp, ?_, ?_⟩
  · intro b hb
    simp only [List.mem_cons, List.not_mem_nil, or_false] at hb
    rcases hb with rfl | rfl | rfl | rfl | rfl | rfl <;> rfl
  · intro as hl h
    obtain ⟨a, b, d, e, f, g, rfl⟩ := len6 hl
    obtain ⟨h0, h1, h2, h3, h4, h5⟩ := at6 a b d e f g
    have k0 := h 0 (by omega)
    have k1 := h 1 (by omega)
    have k2 := h 2 (by omega)
    have k3 := h 3 (by omega)
    have k4 := h 4 (by omega)
    have k5 := h 5 (by omega)
    rw [h0] at k0
    rw [h1] at k1
    rw [h2] at k2
    rw [h3] at k3
    rw [h4] at k4
    rw [h5] at k5
    intro x hx
    simp only [List.mem_cons, List.not_mem_nil, or_false] at hx
    rcases hx with rfl | rfl | rfl | rfl | rfl | rfl <;> assumption
  · intro v _
    refine ⟨[v 0, v 1, v 2, v 3, v 4, v 5], rfl, fun i hi => ?_⟩
    obtain ⟨h0, h1, h2, h3, h4, h5⟩ := at6 (v 0) (v 1) (v 2) (v 3) (v 4) (v 5)
    have c1 : i = 0 ∨ i = 1 ∨ i = 2 ∨ i = 3 ∨ i = 4 ∨ i = 5 := by omega
    rcases c1 with rfl | rfl | rfl | rfl | rfl | rfl
    · exact h0.symm
    · exact h1.symm
    · exact h2.symm
    · exact h3.symm
    · exact h4.symm
    · exact h5.symm
theorem units_ok : ∀ b ∈ units, b.length = 6 ∧ Bd b := by
  intro b hb
  simp only [units, List.mem_cons, List.not_mem_nil, or_false] at hb
  rcases hb with rfl | rfl | rfl | rfl | rfl | rfl <;> refine ⟨rfl, fun a ha => ?_⟩ <;> simp only [List.mem_cons, List.not_mem_nil, or_false] at ha <;> omega
def wl (D : List Rb.Step) (f : Nat) : List (Z p) := [wf D f 0, wf D f 1, wf D f 2, wf D f 3, wf D f 4, wf D f 5]
theorem comb_zeros (B : List (List (Z p))) (n i : Nat) : comb (List.replicate n (0 : Z p)) B i = 0 := by
  induction n generalizing B with
  | zero => exact comb_nil B i
  | succ n ih =>
    cases B with
    | nil => rfl
    | cons b B =>
      rw [List.replicate_succ, comb_cons, ih]
      grind
theorem meet_one {B xs : List (List (Z p))} {D : List Rb.Step} {l : List (List Nat)} {f : Nat} (I : Inv6 B xs) (hx : xs.length = 5) (g : G 6 D l [f] xs) : ∃ b, B = [b] ∧ formZ b = formZ (wl D f) := by
  have hc := I.cnt
  have each : ∀ b ∈ B, ∀ i, i < 6 → az b i = az b f * wf D f i := fun b hb => one_free g (az b) (I.sol b hb)
  have hf : f < 6 := (g.free f (by simp)).1
  match B, I, hc, each with
  | [], _, hc, _ =>
    rw [hx] at hc
    simp at hc
  | [b], I, hc, each =>
    refine ⟨b, rfl, ?_⟩
    have e := each b (by simp)
    have hb := I.len b (by simp)
    have hk : az b f ≠ 0 := fun q => by
      have := I.ind [1] rfl (fun i hi => by
        rw [comb_cons, comb_nil, e i hi, q]
        grind) 1 (by simp)
      exact zero_ne_one this.symm
    have : b = (wl D f).map (az b f * ·) := by
      have e0 := e 0 (by omega)
      have e1 := e 1 (by omega)
      have e2 := e 2 (by omega)
      have e3 := e 3 (by omega)
      have e4 := e 4 (by omega)
      have e5 := e 5 (by omega)
      generalize az b f = k at *
      obtain ⟨a, b', d, e', f', g', rfl⟩ := len6 hb
      simp only [az, List.getD_cons_zero, List.getD_cons_succ] at e0 e1 e2 e3 e4 e5
      rw [e0, e1, e2, e3, e4, e5]
      rfl
    exact (congrArg formZ this).trans (formZ_scale hk _)
  | b1 :: b2 :: B, I, hc, each =>
    have e1 := each b1 (by simp)
    have e2 := each b2 (by simp)
    have := I.ind (az b2 f :: (-(az b1 f)) :: List.replicate B.length 0) (by simp) (fun i hi => by
      rw [comb_cons, comb_cons, comb_zeros, e1 i hi, e2 i hi]
      grind)
    have h1 := this (-(az b1 f)) (by simp)
    have := I.ind (1 :: 0 :: List.replicate B.length 0) (by simp) (fun i hi => by
      rw [comb_cons, comb_cons, comb_zeros, e1 i hi]
      grind) 1 (by simp)
    exact (zero_ne_one this.symm).elim
theorem meet_more {B xs : List (List (Z p))} {D : List Rb.Step} {l : List (List Nat)} {F : List Nat} (I : Inv6 B xs) (hx : xs.length = 5) (g : G 6 D l F xs) (hD : D.length ≠ 5) : 1 < B.length := by
  have hc := I.cnt
  have hn := g.cnt
  match F, g, hn with
  | [], g, hn =>
    match B, I, hc with
    | [], _, hc =>
      rw [hx] at hc
      simp at hc
    | b :: B, I, hc =>
      have e := no_free g (az b) (I.sol b (by simp))
      have := I.ind (1 :: List.replicate B.length 0) (by simp) (fun i hi => by
        rw [comb_cons, comb_zeros, e i hi]
        grind) 1 (by simp)
      exact (zero_ne_one this.symm).elim
  | [f], g, hn =>
    simp at hn
    omega
  | f1 :: f2 :: F, g, hn =>
    match B, I, hc with
    | [], _, hc =>
      rw [hx] at hc
      simp at hc
    | [b], I, hc =>
      have ne : f1 ≠ f2 := by
        have := g.nod
        rw [List.nodup_cons] at this
        intro e
        exact this.1 (by rw [e]; simp)
      have h1 := (g.free f1 (by simp)).1
      have h2 := (g.free f2 (by simp)).1
      obtain ⟨c1, l1, k1⟩ := I.span (wf D f1) (wf_sol g (by simp))
      obtain ⟨c2, l2, k2⟩ := I.span (wf D f2) (wf_sol g (by simp))
      match c1, l1, c2, l2 with
      | [c1], _, [c2], _ =>
        have a1 := k1 f1 h1
        have a2 := k1 f2 h2
        have a3 := k2 f2 h2
        rw [comb_cons, comb_nil, wf_self] at a1
        rw [comb_cons, comb_nil, wf_free g (by simp) fun q => ne q.symm] at a2
        rw [comb_cons, comb_nil, wf_self] at a3
        exfalso
        have hc1 : c1 ≠ 0 := fun q => by
          rw [q] at a1
          exact zero_ne_one (p := p) (by grind)
        have hb : az b f2 = 0 := by grind
        rw [hb] at a3
        exact zero_ne_one (p := p) (by grind)
    | b1 :: b2 :: B, _, _ => simp
end
end Pb
end
section
set_option Elab.async false
set_option linter.all false
set_option maxRecDepth 100000
set_option maxHeartbeats 1000000
namespace Pb
open L2 Dn Z
open PySem.W (WData)
open WrraybNeutral (nats told rowT)
section
variable {p : Nat} [P : Pr p]
theorem zr_asks (x : List Nat) : zr p (Rb.asks p x) = monZ (zr p x) := by
  unfold Rb.asks monZ
  simp only [zr_cons, zr_nil, c_nmod, c_nmul, az_zr]
theorem G_start {l : List (List Nat)} {xs : List (List (Z p))} (hl : ∀ r ∈ l, r.length = 6) (h : ∀ v : Nat → Z p, (∀ r ∈ l, ev v (zr p r) = 0) ↔ ∀ m ∈ xs, ev v m = 0) : G 0 [] l [] xs where
  lenD := fun s hs => by cases hs
  lenl := hl
  sol := fun v => by
    rw [← h v]
    exact ⟨fun q => q.2, fun q => ⟨fun s hs => (by cases hs), q⟩⟩
  zero := fun r _ j hj => by omega
  piv := fun s hs => by cases hs
  off := fun s hs => by cases hs
  uniq := fun s hs => by cases hs
  nod := List.nodup_nil
  free := fun f hf => by cases hf
  all := fun j hj => by omega
  cnt := rfl
theorem wl_zr {D : List Rb.Step} {f : Nat} : zr p ((List.range 6).map (fun (i : Nat) => if i = f then 1 else match D.find? (fun (z : Rb.Step) => z.place == i) with
      | some z => Rb.neg p (Rb.at_ z.row f)
      | none => 0)) = wl D f := by
  have e : ∀ i : Nat, c p ((if i = f then 1 else match D.find? (fun (z : Rb.Step) => z.place == i) with
      | some z => Rb.neg p (Rb.at_ z.row f)
      | none => 0 : Nat) : Int) = wf D f i := fun i => by
    unfold wf
    by_cases q : i = f
    · rw [if_pos q, if_pos q]
      rfl
    · rw [if_neg q, if_neg q]
      cases D.find? (fun (z : Rb.Step) => z.place == i) with
      | none => rfl
      | some z =>
        show c p ((Rb.neg p (Rb.at_ z.row f) : Nat) : Int) = - az (zr p z.row) f
        rw [c_neg_, az_zr]
  unfold zr
  rw [List.map_map]
  show [_, _, _, _, _, _] = wl D f
  unfold wl
  rw [← e 0, ← e 1, ← e 2, ← e 3, ← e 4, ← e 5]
  rfl
theorem conic_spec {l : List (List Nat)} {xs B : List (List (Z p))} (I : Inv6 B xs) (hx : xs.length = 5) (g : G 0 [] l [] xs) :
    (∃ b r, B = [b] ∧ rowT r = lift (formZ b) ∧ (let s := Rb.stepsFrom p 6 0 [] l
      if s.length ≠ 5 then none else match (List.range 6).find? (fun (i : Nat) => !s.any (fun (z : Rb.Step) => z.place == i)) with
        | none => none
        | some f => some (Rb.form p ((List.range 6).map (fun (i : Nat) => if i = f then 1 else match s.find? (fun (z : Rb.Step) => z.place == i) with
          | some z => Rb.neg p (Rb.at_ z.row f)
          | none => 0)))) = some r) ∨
    (1 < B.length ∧ (let s := Rb.stepsFrom p 6 0 [] l
      if s.length ≠ 5 then none else match (List.range 6).find? (fun (i : Nat) => !s.any (fun (z : Rb.Step) => z.place == i)) with
        | none => none
        | some f => some (Rb.form p ((List.range 6).map (fun (i : Nat) => if i = f then 1 else match s.find? (fun (z : Rb.Step) => z.place == i) with
          | some z => Rb.neg p (Rb.at_ z.row f)
          | none => 0)))) = (none : Option (List Nat))) := by
  obtain ⟨F, l', g⟩ := G_all 6 0 [] l [] g
  generalize Rb.stepsFrom p 6 0 [] l = D at g ⊢
  have g : G 6 D l' F xs := g
  by_cases hD : D.length = 5
  · have hn := g.cnt
    match F, g, hn with
    | [], _, hn =>
      simp at hn
      omega
    | f1 :: f2 :: F, _, hn =>
      simp at hn
      omega
    | [f], g, _ =>
      obtain ⟨b, hB, hform⟩ := meet_one I hx g
      have hff : f < 6 := (g.free f (by simp)).1
      have ef : (List.range 6).find? (fun (i : Nat) => !D.any (fun (z : Rb.Step) => z.place == i)) = some f := by
        refine find_one (List.mem_range.mpr hff) fun i hi => ?_
        have hi := List.mem_range.mp hi
        rw [Bool.not_eq_true', List.any_eq_false]
        constructor
        · intro h
          rcases g.all i hi with q | ⟨s, hs, q⟩
          · simpa using q
          · have := h s hs
            simp [q] at this
        · rintro rfl s hs
          have := (g.free i (by simp)).2 s hs
          simpa using this
      refine .inl ⟨b, Rb.form p ((List.range 6).map (fun (i : Nat) => if i = f then 1 else match D.find? (fun (z : Rb.Step) => z.place == i) with
          | some z => Rb.neg p (Rb.at_ z.row f)
          | none => 0)), hB, ?_, ?_⟩
      · rw [form_v, wl_zr, hform]
      · simp only [hD, ef]
        rfl
  · refine .inr ⟨meet_more I hx g hD, ?_⟩
    simp only
    rw [if_pos hD]
end
theorem conic_law (p : Int) (a b d e f : List Int) (ra : Row9 a) (rb : Row9 b) (rd : Row9 d) (re : Row9 e) (rf : Row9 f) : d_conic [.int p, iL a, iL b, iL d, iL e, iL f] = some (iL (PyWrrayb.conic p a b d e f)) := by
  rw [sp_conic]
  by_cases hp : p ∈ oddPrimes
  · obtain ⟨p, rfl, P⟩ := oddPrimes_pr hp
    have e2 := d_are_triples_eq (p := p) [a, b, d, e, f] (by simp)
    have ea : [nats a, nats b, nats d, nats e, nats f].all (fun x => Wrrayb.isPoint p x) = [a, b, d, e, f].all (isN p 3) := by
      simp only [List.all_cons, List.all_nil, isPoint_zi ra, isPoint_zi rb, isPoint_zi rd, isPoint_zi re, isPoint_zi rf]
    simp only [Int.toNat_natCast, primeOk_nat, Bool.true_and, ea]
    cases hb : [a, b, d, e, f].all (isN p 3) with
    | false => simp only [d_conic, body, initR, sNil, sBreak, sCont, sSeq, sRet, sRetN, sIf, sSet, sOwn, sPut, sAug, sFor, sForT, sForR_eq, dVar, dC, dOp, hAdd_ii, hSub_ii, hMul_ii, hMod_ii, hDiv_ii, hLt_ii, hLe_ii, hGt_ii, hGe_ii, hEq_ii, hNe_ii, dNeg, hInT, hInL, hIx_iL, hIx_rL, fLen_iL, fLen_rL, cat_iL, cat_rL, cut_iL, hEqL_iL, rfold1, rfold2, rfold3, rfold4, rfold5, rfold8, foldc, foldcc, fold0, fold1, fold2, fold3, fold6, fold9, foldL, foldR, lcL_iL, lcL_rL, dIxO, dTest, dAnd, dOr, dNot, dAndV, dOrV, dNotV, dIf, dNil, dCons, dL, dTup, dCall, dLc_eq, dYes, dCat_eq, freeze, wipeR, atc_0, atc_1, atc_2, atc_3, atc_4, atc_5, atc_6, atc_7, atc_8, List.map_cons, List.map_nil, List.length_cons, List.length_nil, List.replicate, List.cons_append, List.nil_append, List.append_nil, List.getElem?_cons_zero, List.getElem?_cons_succ, List.getElem?_nil, List.set_cons_zero, List.set_cons_succ, List.set_nil, Option.bind_some, Option.map_some, Option.bind_none, Option.map_none, if_true, if_false, Bool.false_eq_true, Nat.reduceAdd, Nat.reduceSub, List.length_map, intsOf_ints, Bool.not_true, Bool.not_false, decide_true, decide_false, Function.comp, dMeth, dNew, dCut, dRep, dLcR_eq, fListOf_t, hIn_p, dec_odd, e2, hb, gate_false]
    | true =>
      have hb' := hb
      simp only [List.all_cons, List.all_nil, Bool.and_true, Bool.and_eq_true] at hb'
      obtain ⟨na, nb, nd, ne, nf⟩ := hb'
      have eu := lc_units [some (.val (.int (p : Int))), some (.val (iL a)), some (.val (iL b)), some (.val (iL d)), some (.val (iL e)), some (.val (iL f)), none, none, none] fun _ => rfl
      obtain ⟨b1, s1, I1, o1, c1⟩ := narrow_step (p := p) units_inv units_ok (by decide) (isN_len na) ra.bd
      obtain ⟨b2, s2, I2, o2, c2⟩ := narrow_step (p := p) I1 o1 c1 (isN_len nb) rb.bd
      obtain ⟨b3, s3, I3, o3, c3⟩ := narrow_step (p := p) I2 o2 c2 (isN_len nd) rd.bd
      obtain ⟨b4, s4, I4, o4, c4⟩ := narrow_step (p := p) I3 o3 c3 (isN_len ne) re.bd
      obtain ⟨b5, s5, I5, o5, c5⟩ := narrow_step (p := p) I4 o4 c4 (isN_len nf) rf.bd
      have za : zr p (Rb.asks p (nats a)) = monZ (zi p a) := by rw [zr_asks, zr_nats ra.low]
      have zb : zr p (Rb.asks p (nats b)) = monZ (zi p b) := by rw [zr_asks, zr_nats rb.low]
      have zd : zr p (Rb.asks p (nats d)) = monZ (zi p d) := by rw [zr_asks, zr_nats rd.low]
      have ze : zr p (Rb.asks p (nats e)) = monZ (zi p e) := by rw [zr_asks, zr_nats re.low]
      have zf : zr p (Rb.asks p (nats f)) = monZ (zi p f) := by rw [zr_asks, zr_nats rf.low]
      have g : G 0 [] [Rb.asks p (nats a), Rb.asks p (nats b), Rb.asks p (nats d), Rb.asks p (nats e), Rb.asks p (nats f)] [] [monZ (zi p f), monZ (zi p e), monZ (zi p d), monZ (zi p b), monZ (zi p a)] := by
        refine G_start (fun r hr => ?_) fun v => ?_
        · simp only [List.mem_cons, List.not_mem_nil, or_false] at hr
          rcases hr with rfl | rfl | rfl | rfl | rfl <;> rfl
        · simp only [List.mem_cons, List.not_mem_nil, or_false, forall_eq_or_imp, forall_eq, za, zb, zd, ze, zf]
          constructor
          · rintro ⟨h1, h2, h3, h4, h5⟩
            exact ⟨h5, h4, h3, h2, h1⟩
          · rintro ⟨h1, h2, h3, h4, h5⟩
            exact ⟨h5, h4, h3, h2, h1⟩
      have lp : ∀ w6 w7 : Option Sl, ∃ w7', loop 7 (sSet 6 (dCall d_narrowed (dCons (dVar 0) (dCons (dVar 6) (dCons (dVar 7) dNil))))) [iL a, iL b, iL d, iL e, iL f] [some (.val (.int (p : Int))), some (.val (iL a)), some (.val (iL b)), some (.val (iL d)), some (.val (iL e)), some (.val (iL f)), some (.val (rL units)), w7, none] = some (.nx [some (.val (.int (p : Int))), some (.val (iL a)), some (.val (iL b)), some (.val (iL d)), some (.val (iL e)), some (.val (iL f)), some (.val (rL b5)), w7', none]) := fun w6 w7 => by
        refine ⟨some (.val (iL f)), ?_⟩
        simp only [loop, sSet, dCall, dCons, dNil, dVar, List.getElem?_cons_zero, List.getElem?_cons_succ, List.set_cons_zero, List.set_cons_succ, Option.bind_some, Option.map_some, s1, s2, s3, s4, s5]
      obtain ⟨w7, lp⟩ := lp none none
      have r5 : WData.list [iL a, iL b, iL d, iL e, iL f] = rL [a, b, d, e, f] := rfl
      have sf : ∀ ρ : Rho, sFor 7 (dL (dCons (dVar 1) (dCons (dVar 2) (dCons (dVar 3) (dCons (dVar 4) (dCons (dVar 5) dNil)))))) (sSet 6 (dCall d_narrowed (dCons (dVar 0) (dCons (dVar 6) (dCons (dVar 7) dNil))))) [some (.val (.int (p : Int))), some (.val (iL a)), some (.val (iL b)), some (.val (iL d)), some (.val (iL e)), some (.val (iL f)), some (.val (rL units)), none, none] = some (.nx [some (.val (.int (p : Int))), some (.val (iL a)), some (.val (iL b)), some (.val (iL d)), some (.val (iL e)), some (.val (iL f)), some (.val (rL b5)), w7, none]) := fun _ => by
        rw [← lp]
        rfl
      have sf := sf []
      have t6 : (6 : Int).toNat = 6 := rfl
      rcases conic_spec I5 rfl g with ⟨bz, r, hB, hr, hs⟩ | ⟨hB, hs⟩
      · have hs : Rb.conic p [nats a, nats b, nats d, nats e, nats f] = some r := hs
        have hl1 : b5.length = 1 := by
          have := congrArg List.length hB
          simpa using this
        match b5, hl1, hB, o5 with
        | [b], _, hB, o5 =>
          have hbz : zi p b = bz := by
            simp only [List.map_cons, List.map_nil, List.cons.injEq, and_true] at hB
            exact hB
          have hb6 := (o5 b (by simp)).1
          have ef := d_form_of_eq (p := p) b (by omega)
          rw [hbz] at ef
          have hz : 0 + 1 + (lift (formZ bz)).length ≤ 16777216 := by
            rw [lift_len, formZ_len, ← hbz, zi_len, hb6]; omega
          have n1 : ¬ ((1 : Int) < ((([b] : List (List Int)).length : Nat) : Int)) := by
            show ¬ ((1 : Int) < 1)
            omega
          simp only [d_conic, body, initR, sNil, sf, sSeq, sIf, sRet, sSet, dNot, dAnd, dTest, dOp, dC, dVar, dL, dCons, dNil, dCall, dCat_eq, dLcR_eq, dNeg, wipeR, List.map_cons, List.map_nil, List.cons_append, List.nil_append, List.length_cons, List.length_nil, Nat.reduceAdd, Nat.reduceSub, List.replicate, List.getElem?_cons_zero, List.getElem?_cons_succ, List.set_cons_zero, List.set_cons_succ, Option.bind_some, Option.map_some, hIn_p, dec_odd, rfold5, e2, hb, Bool.not_true, Bool.false_eq_true, if_true, if_false, lcRs_1 (j := 6) (by omega) (by omega), t6, eu, foldR]
          simp only [Option.bind_some, List.getElem?_cons_zero, List.getElem?_cons_succ, fLen_rL, hGt_ii, n1, decide_false, Bool.false_eq_true, if_false, hIx_rL, List.map_cons, List.map_nil, atc_0, ef, fold1, cat_iL (show ([(0 : Int)]).length + (lift (formZ bz)).length ≤ 16777216 from hz), Option.map_some, foldL, gate_true, hs, Wrrayb.orNo, told_row, hr, List.cons_append, List.nil_append, foldc]
      · have hs : Rb.conic p [nats a, nats b, nats d, nats e, nats f] = none := hs
        rw [List.length_map] at hB
        have n1 : ((1 : Int) < ((b5.length : Nat) : Int)) := by omega
        simp only [d_conic, body, initR, sNil, sf, sSeq, sIf, sRet, sSet, dNot, dAnd, dTest, dOp, dC, dVar, dL, dCons, dNil, dCall, dCat_eq, dLcR_eq, dNeg, wipeR, List.map_cons, List.map_nil, List.cons_append, List.nil_append, List.length_cons, List.length_nil, Nat.reduceAdd, Nat.reduceSub, List.replicate, List.getElem?_cons_zero, List.getElem?_cons_succ, List.set_cons_zero, List.set_cons_succ, Option.bind_some, Option.map_some, hIn_p, dec_odd, rfold5, e2, hb, Bool.not_true, Bool.false_eq_true, if_true, if_false, lcRs_1 (j := 6) (by omega) (by omega), t6, eu, foldR]
        simp only [Option.bind_some, List.getElem?_cons_zero, List.getElem?_cons_succ, fLen_rL, hGt_ii, n1, decide_true, if_true, fold1, Option.map_some, gate_true, hs, Wrrayb.orNo, told_no]
  · simp only [d_conic, body, initR, sNil, sBreak, sCont, sSeq, sRet, sRetN, sIf, sSet, sOwn, sPut, sAug, sFor, sForT, sForR_eq, dVar, dC, dOp, hAdd_ii, hSub_ii, hMul_ii, hMod_ii, hDiv_ii, hLt_ii, hLe_ii, hGt_ii, hGe_ii, hEq_ii, hNe_ii, dNeg, hInT, hInL, hIx_iL, hIx_rL, fLen_iL, fLen_rL, cat_iL, cat_rL, cut_iL, hEqL_iL, rfold1, rfold2, rfold3, rfold4, rfold5, rfold8, foldc, foldcc, fold0, fold1, fold2, fold3, fold6, fold9, foldL, foldR, lcL_iL, lcL_rL, dIxO, dTest, dAnd, dOr, dNot, dAndV, dOrV, dNotV, dIf, dNil, dCons, dL, dTup, dCall, dLc_eq, dYes, dCat_eq, freeze, wipeR, atc_0, atc_1, atc_2, atc_3, atc_4, atc_5, atc_6, atc_7, atc_8, List.map_cons, List.map_nil, List.length_cons, List.length_nil, List.replicate, List.cons_append, List.nil_append, List.append_nil, List.getElem?_cons_zero, List.getElem?_cons_succ, List.getElem?_nil, List.set_cons_zero, List.set_cons_succ, List.set_nil, Option.bind_some, Option.map_some, Option.bind_none, Option.map_none, if_true, if_false, Bool.false_eq_true, Nat.reduceAdd, Nat.reduceSub, List.length_map, intsOf_ints, Bool.not_true, Bool.not_false, decide_true, decide_false, Function.comp, dMeth, dNew, dCut, dRep, dLcR_eq, fListOf_t, hIn_p, hp, not_odd hp, Bool.false_and, gate_false]
end Pb
end
section
set_option Elab.async false
set_option linter.all false
namespace Pb
open PySem.W
theorem in1 {α β : Type} {f : α → Bool} {g : β → Bool} {a : α × β} (h : Codec.inPair f g a = true) : f a.1 = true ∧ g a.2 = true := Bool.and_eq_true_iff.mp h
theorem row9_of {x : List Int} (h : Codec.inList 0 9 (Codec.inInt 0 4294967295) x = true) : Row9 x := by
  obtain ⟨h1, h2⟩ := Bool.and_eq_true_iff.mp h
  have h2 := List.all_eq_true.mp h2
  exact ⟨(Codec.inNat_iff.mp h1).2, fun a ha => (Codec.inInt_iff.mp (h2 a ha)).1, fun a ha => (Codec.inInt_iff.mp (h2 a ha)).2⟩
theorem inx {α β γ : Type} {f : α → Bool} {g : β → Bool} {k : γ → Bool} {a : α × β × γ} (h : Codec.inPair f (Codec.inPair g k) a = true) : Codec.inPair g k a.2 = true := (in1 h).2
end Pb
end
section
set_option Elab.async false
set_option linter.all false
set_option maxRecDepth 100000
set_option maxHeartbeats 2000000
namespace Pb
open PySem PySem.Spec L2 Dn
open PySem.W (WData Codec)
def top (i : Nat) : Stmt := PySem.Challenge.pw_planebook_s15_conic.main.body.getD i (.Pass ⟨0, 0, 0, 0⟩)
abbrev s_first_not_zero : Stmt := top 2
abbrev s_are_triples : Stmt := top 3
abbrev s_inverse : Stmt := top 4
abbrev s_form_of : Stmt := top 5
abbrev s_mixed : Stmt := top 6
abbrev s_value_at : Stmt := top 7
abbrev s_narrowed : Stmt := top 8
abbrev s_conic : Stmt := top 9
section
variable {P : Program} {w : World} {K : PySem.W.Frag} {mg : Str → Option Value} {base : Heap}
theorem sc_first_not_zero : FnScope ["p", "numbers", "n"] ["p", "numbers"] (defScope s_first_not_zero) := ⟨rfl, rfl, rfl, by decide +kernel, rfl, by decide +kernel, by decide +kernel⟩
theorem ok_first_not_zero {f : Addr} {fd : FuncData} (F : Fun K "first_not_zero" "first_not_zero" s_first_not_zero f fd) : FnOk P w K mg base CX0 1 f fd ["p", "numbers"] (spF K 2 d_first_not_zero) :=
  den_ok (k := 0) (N := ["p", "numbers", "n"]) F sc_first_not_zero fun cdv A outer s H E hr => ⟨_, (pss_cons (ps_for PassesOwn.never rfl (pi_list (pv 1)) (pg_name (i := 2) sc_first_not_zero.nd rfl (Or.inl rfl))
  (pss_one (ps_if (pt_cmpR op_ne (pe_op op_mod (pv 2) (pv 0)) pe_int (nomark _))
  (pss_one (ps_ret (pe_op op_mod (pv 2) (pv 0))))
  pss_nil)))
  (pss_one (ps_ret pe_int))),
  (rs_seq (rs_for (i := 2) (re_var 1)
  (rs_if (rt_test (re_op ro_ne (re_op ro_mod (re_var 2) (re_var 0)) (re_int 0)))
  (rs_ret (re_op ro_mod (re_var 2) (re_var 0)))
  rs_nil))
  (rs_ret (re_int 0)))⟩
theorem sc_are_triples : FnScope ["p", "lists", "numbers"] ["p", "lists"] (defScope s_are_triples) := ⟨rfl, rfl, rfl, by decide +kernel, rfl, by decide +kernel, by decide +kernel⟩
theorem ok_are_triples {f : Addr} {fd : FuncData} (F : Fun K "are_triples" "are_triples" s_are_triples f fd) (c_first_not_zero : Cal P w K mg base 1 "first_not_zero" ["p", "numbers"] 2 d_first_not_zero) (z_len : mg "len" = none) (z_all : mg "all" = none) : FnOk P w K mg base CX0 2 f fd ["p", "lists"] (spF K 2 d_are_triples) :=
  den_ok (k := 1) (N := ["p", "lists", "numbers"]) F sc_are_triples fun cdv A outer s H E hr => ⟨_, (pss_one (ps_ret (pe_callB (cr_all rfl) (by rfl) z_all (by rfl) (pa_cons (pe_lc rfl sc_are_triples.nd (pi_list (pv 1)) (blkOk_by (N := ["p", "lists", "numbers"]) (sc := defScope s_are_triples) (own := [("numbers", 2)]) (by decide +kernel)) (fun _ _ _ _ _ => pg_name (i := 2) sc_are_triples.nd rfl (Or.inl rfl)) (fun _ _ _ _ _ => pts_nil) (fun _ _ _ _ _ => (pe_and (pe_cmpR op_eq (pe_callB call_len_seq (by rfl) z_len PySem.boot_len (pa_cons (pv 2) pa_nil)) pe_int (nomark _)) (pe_one (pe_cmpR op_ne (pe_cal c_first_not_zero hr (by decide) (by rfl) (pa_cons (pv 0) (pa_cons (pv 2) pa_nil))) pe_int (nomark _)))))) pa_nil)))),
  (rs_ret (re_cb rc_all (ra_cons (re_rf (rf_lc (i := 2) (re_var 1) rt_yes (re_andV (re_op ro_eq (re_cb rc_len (ra_cons (re_var 2) ra_nil)) (re_int 3)) (re_op ro_ne (re_call (ra_cons (re_var 0) (ra_cons (re_var 2) ra_nil))) (re_int 0))))) ra_nil)))⟩
theorem sc_inverse : FnScope ["p", "a", "result", "step"] ["p", "a"] (defScope s_inverse) := ⟨rfl, rfl, rfl, by decide +kernel, rfl, by decide +kernel, by decide +kernel⟩
theorem ok_inverse {f : Addr} {fd : FuncData} (F : Fun K "inverse" "inverse" s_inverse f fd) (z_range : mg "range" = none) : FnOk P w K mg base CX0 1 f fd ["p", "a"] (spF K 2 d_inverse) :=
  den_ok (k := 0) (N := ["p", "a", "result", "step"]) F sc_inverse fun cdv A outer s H E hr => ⟨_, (pss_cons (ps_set (i := 2) sc_inverse.nd rfl (Or.inl rfl) pe_int)
  (pss_cons (ps_for PassesOwn.never rfl (pi_range1 rfl z_range (pa_cons (pe_op op_sub (pv 0) pe_int) pa_nil)) (pg_name (i := 3) sc_inverse.nd rfl (Or.inl rfl))
  (pss_one (ps_set (i := 2) sc_inverse.nd rfl (Or.inl rfl) (pe_op op_mod (pe_op op_mul (pv 2) (pv 1)) (pv 0)))))
  (pss_one (ps_ret (pv 2))))),
  (rs_seq (rs_set (i := 2) (re_int 1))
  (rs_seq (rs_forR1 (i := 3) (ra_cons (re_op ro_sub (re_var 0) (re_int 2)) ra_nil)
  (rs_set (i := 2) (re_op ro_mod (re_op ro_mul (re_var 2) (re_var 1)) (re_var 0))))
  (rs_ret (re_var 2))))⟩
theorem sc_form_of : FnScope ["p", "numbers", "scale", "n"] ["p", "numbers"] (defScope s_form_of) := ⟨rfl, rfl, rfl, by decide +kernel, rfl, by decide +kernel, by decide +kernel⟩
theorem ok_form_of {f : Addr} {fd : FuncData} (F : Fun K "form_of" "form_of" s_form_of f fd) (c_first_not_zero : Cal P w K mg base 1 "first_not_zero" ["p", "numbers"] 2 d_first_not_zero) (c_inverse : Cal P w K mg base 1 "inverse" ["p", "a"] 2 d_inverse) : FnOk P w K mg base CX0 2 f fd ["p", "numbers"] (spF K 2 d_form_of) :=
  den_ok (k := 1) (N := ["p", "numbers", "scale", "n"]) F sc_form_of fun cdv A outer s H E hr => ⟨_, (pss_cons (ps_set (i := 2) sc_form_of.nd rfl (Or.inr rfl) (pe_cal c_inverse hr (by decide) (by rfl) (pa_cons (pv 0) (pa_cons (pe_cal c_first_not_zero hr (by decide) (by rfl) (pa_cons (pv 0) (pa_cons (pv 1) pa_nil))) pa_nil))))
  (pss_one (ps_ret (pe_lc rfl sc_form_of.nd (pi_list (pv 1)) (blkOk_by (N := ["p", "numbers", "scale", "n"]) (sc := defScope s_form_of) (own := [("n", 3)]) (by decide +kernel)) (fun _ _ _ _ _ => pg_name (i := 3) sc_form_of.nd rfl (Or.inl rfl)) (fun _ _ _ _ _ => pts_nil) (fun _ _ _ _ _ => (pe_op op_mod (pe_op op_mul (pv 2) (pv 3)) (pv 0))))))),
  (rs_seq (rs_set (i := 2) (re_call (ra_cons (re_var 0) (ra_cons (re_call (ra_cons (re_var 0) (ra_cons (re_var 1) ra_nil))) ra_nil))))
  (rs_ret (re_rf (rf_lc (i := 3) (re_var 1) rt_yes (re_op ro_mod (re_op ro_mul (re_var 2) (re_var 3)) (re_var 0))))))⟩
theorem sc_mixed : FnScope ["p", "s", "x", "t", "y", "i"] ["p", "s", "x", "t", "y"] (defScope s_mixed) := ⟨rfl, rfl, rfl, by decide +kernel, rfl, by decide +kernel, by decide +kernel⟩
theorem ok_mixed {f : Addr} {fd : FuncData} (F : Fun K "mixed" "mixed" s_mixed f fd) (z_range : mg "range" = none) (z_len : mg "len" = none) : FnOk P w K mg base CX0 1 f fd ["p", "s", "x", "t", "y"] (spF K 5 d_mixed) :=
  den_ok (k := 0) (N := ["p", "s", "x", "t", "y", "i"]) F sc_mixed fun cdv A outer s H E hr => ⟨_, (pss_one (ps_ret (pe_lc rfl sc_mixed.nd (pi_range1 rfl z_range (pa_cons (pe_callB call_len_seq (by rfl) z_len PySem.boot_len (pa_cons (pv 2) pa_nil)) pa_nil)) (blkOk_by (N := ["p", "s", "x", "t", "y", "i"]) (sc := defScope s_mixed) (own := [("i", 5)]) (by decide +kernel)) (fun _ _ _ _ _ => pg_name (i := 5) sc_mixed.nd rfl (Or.inl rfl)) (fun _ _ _ _ _ => pts_nil) (fun _ _ _ _ _ => (pe_op op_mod (pe_op op_add (pe_op op_mul (pv 1) (pe_ix ix_seq (pv 2) (pv 5) (fun _ _ => rfl))) (pe_op op_mul (pv 3) (pe_ix ix_seq (pv 4) (pv 5) (fun _ _ => rfl)))) (pv 0)))))),
  (rs_ret (re_rf (rf_lcR1 (i := 5) (ra_cons (re_cb rc_len (ra_cons (re_var 2) ra_nil)) ra_nil) rt_yes (re_op ro_mod (re_op ro_add (re_op ro_mul (re_var 1) (re_op ro_ix (re_var 2) (re_var 5))) (re_op ro_mul (re_var 3) (re_op ro_ix (re_var 4) (re_var 5)))) (re_var 0)))))⟩
theorem sc_value_at : FnScope ["p", "k", "x", "squares"] ["p", "k", "x"] (defScope s_value_at) := ⟨rfl, rfl, rfl, by decide +kernel, rfl, by decide +kernel, by decide +kernel⟩
theorem ok_value_at {f : Addr} {fd : FuncData} (F : Fun K "value_at" "value_at" s_value_at f fd) : FnOk P w K mg base CX0 1 f fd ["p", "k", "x"] (spF K 3 d_value_at) :=
  den_ok (k := 0) (N := ["p", "k", "x", "squares"]) F sc_value_at fun cdv A outer s H E hr => ⟨_, (pss_cons (ps_set (i := 3) sc_value_at.nd rfl (Or.inl rfl) (pe_op op_add (pe_op op_add (pe_op op_mul (pe_op op_mul (pe_ix ix_seq (pv 1) pe_int (fun _ _ => rfl)) (pe_ix ix_seq (pv 2) pe_int (fun _ _ => rfl))) (pe_ix ix_seq (pv 2) pe_int (fun _ _ => rfl))) (pe_op op_mul (pe_op op_mul (pe_ix ix_seq (pv 1) pe_int (fun _ _ => rfl)) (pe_ix ix_seq (pv 2) pe_int (fun _ _ => rfl))) (pe_ix ix_seq (pv 2) pe_int (fun _ _ => rfl)))) (pe_op op_mul (pe_op op_mul (pe_ix ix_seq (pv 1) pe_int (fun _ _ => rfl)) (pe_ix ix_seq (pv 2) pe_int (fun _ _ => rfl))) (pe_ix ix_seq (pv 2) pe_int (fun _ _ => rfl)))))
  (pss_one (ps_ret (pe_op op_mod (pe_op op_add (pe_op op_add (pe_op op_add (pv 3) (pe_op op_mul (pe_op op_mul (pe_ix ix_seq (pv 1) pe_int (fun _ _ => rfl)) (pe_ix ix_seq (pv 2) pe_int (fun _ _ => rfl))) (pe_ix ix_seq (pv 2) pe_int (fun _ _ => rfl)))) (pe_op op_mul (pe_op op_mul (pe_ix ix_seq (pv 1) pe_int (fun _ _ => rfl)) (pe_ix ix_seq (pv 2) pe_int (fun _ _ => rfl))) (pe_ix ix_seq (pv 2) pe_int (fun _ _ => rfl)))) (pe_op op_mul (pe_op op_mul (pe_ix ix_seq (pv 1) pe_int (fun _ _ => rfl)) (pe_ix ix_seq (pv 2) pe_int (fun _ _ => rfl))) (pe_ix ix_seq (pv 2) pe_int (fun _ _ => rfl)))) (pv 0))))),
  (rs_seq (rs_set (i := 3) (re_op ro_add (re_op ro_add (re_op ro_mul (re_op ro_mul (re_op ro_ix (re_var 1) (re_int 0)) (re_op ro_ix (re_var 2) (re_int 0))) (re_op ro_ix (re_var 2) (re_int 0))) (re_op ro_mul (re_op ro_mul (re_op ro_ix (re_var 1) (re_int 1)) (re_op ro_ix (re_var 2) (re_int 1))) (re_op ro_ix (re_var 2) (re_int 1)))) (re_op ro_mul (re_op ro_mul (re_op ro_ix (re_var 1) (re_int 2)) (re_op ro_ix (re_var 2) (re_int 2))) (re_op ro_ix (re_var 2) (re_int 2)))))
  (rs_ret (re_op ro_mod (re_op ro_add (re_op ro_add (re_op ro_add (re_var 3) (re_op ro_mul (re_op ro_mul (re_op ro_ix (re_var 1) (re_int 3)) (re_op ro_ix (re_var 2) (re_int 1))) (re_op ro_ix (re_var 2) (re_int 2)))) (re_op ro_mul (re_op ro_mul (re_op ro_ix (re_var 1) (re_int 4)) (re_op ro_ix (re_var 2) (re_int 0))) (re_op ro_ix (re_var 2) (re_int 2)))) (re_op ro_mul (re_op ro_mul (re_op ro_ix (re_var 1) (re_int 5)) (re_op ro_ix (re_var 2) (re_int 0))) (re_op ro_ix (re_var 2) (re_int 1)))) (re_var 0))))⟩
theorem sc_narrowed : FnScope ["p", "conics", "x", "amounts", "lead", "i", "k", "j"] ["p", "conics", "x"] (defScope s_narrowed) := ⟨rfl, rfl, rfl, by decide +kernel, rfl, by decide +kernel, by decide +kernel⟩
theorem ok_narrowed {f : Addr} {fd : FuncData} (F : Fun K "narrowed" "narrowed" s_narrowed f fd) (c_value_at : Cal P w K mg base 1 "value_at" ["p", "k", "x"] 3 d_value_at) (c_first_not_zero : Cal P w K mg base 1 "first_not_zero" ["p", "numbers"] 2 d_first_not_zero) (c_mixed : Cal P w K mg base 1 "mixed" ["p", "s", "x", "t", "y"] 5 d_mixed) (z_range : mg "range" = none) (z_len : mg "len" = none) : FnOk P w K mg base CX0 2 f fd ["p", "conics", "x"] (spF K 3 d_narrowed) :=
  den_ok (k := 1) (N := ["p", "conics", "x", "amounts", "lead", "i", "k", "j"]) F sc_narrowed fun cdv A outer s H E hr => ⟨_, (pss_cons (ps_set (i := 3) sc_narrowed.nd rfl (Or.inr rfl) (pe_lc rfl sc_narrowed.nd (pi_list (pv 1)) (blkOk_by (N := ["p", "conics", "x", "amounts", "lead", "i", "k", "j"]) (sc := defScope s_narrowed) (own := [("k", 6)]) (by decide +kernel)) (fun _ _ _ _ _ => pg_name (i := 6) sc_narrowed.nd rfl (Or.inl rfl)) (fun _ _ _ _ _ => pts_nil) (fun _ _ _ _ _ => (pe_cal c_value_at hr (by decide) (by rfl) (pa_cons (pv 0) (pa_cons (pv 6) (pa_cons (pv 2) pa_nil)))))))
  (pss_cons (ps_set (i := 4) sc_narrowed.nd rfl (Or.inr rfl) (pe_cal c_first_not_zero hr (by decide) (by rfl) (pa_cons (pv 0) (pa_cons (pv 3) pa_nil))))
  (pss_cons (ps_if (pt_cmpR op_eq (pv 4) pe_int (nomark _))
  (pss_one (ps_ret (pv 1)))
  pss_nil)
  (pss_cons (ps_set (i := 5) sc_narrowed.nd rfl (Or.inr rfl) (pe_bm PySem.F.plainAttrs_list PySem.F.slot_list_index PySem.F.type_list_index mt_index (pv 3) (pa_cons (pv 4) pa_nil)))
  (pss_one (ps_ret (pe_lc rfl sc_narrowed.nd (pi_range1 rfl z_range (pa_cons (pe_callB call_len_seq (by rfl) z_len PySem.boot_len (pa_cons (pv 1) pa_nil)) pa_nil)) (blkOk_by (N := ["p", "conics", "x", "amounts", "lead", "i", "k", "j"]) (sc := defScope s_narrowed) (own := [("j", 7)]) (by decide +kernel)) (fun _ _ _ _ _ => pg_name (i := 7) sc_narrowed.nd rfl (Or.inl rfl)) (fun _ _ _ _ _ => pts_one (pt_cmpR op_ne (pv 7) (pv 5) (nomark _))) (fun _ _ _ _ _ => (pe_cal c_mixed hr (by decide) (by rfl) (pa_cons (pv 0) (pa_cons (pv 4) (pa_cons (pe_ix ix_seq (pv 1) (pv 7) (fun _ _ => rfl)) (pa_cons (pe_un un_neg (pe_ix ix_seq (pv 3) (pv 7) (fun _ _ => rfl))) (pa_cons (pe_ix ix_seq (pv 1) (pv 5) (fun _ _ => rfl)) pa_nil)))))))))))))),
  (rs_seq (rs_set (i := 3) (re_rf (rf_lc (i := 6) (re_var 1) rt_yes (re_call (ra_cons (re_var 0) (ra_cons (re_var 6) (ra_cons (re_var 2) ra_nil)))))))
  (rs_seq (rs_set (i := 4) (re_call (ra_cons (re_var 0) (ra_cons (re_var 3) ra_nil))))
  (rs_seq (rs_if (rt_test (re_op ro_eq (re_var 4) (re_int 0)))
  (rs_ret (re_var 1))
  rs_nil)
  (rs_seq (rs_set (i := 5) (re_idxI (re_var 3) (ra_cons (re_var 4) ra_nil)))
  (rs_ret (re_rf (rf_lcR1 (i := 7) (ra_cons (re_cb rc_len (ra_cons (re_var 1) ra_nil)) ra_nil) (rt_test (re_op ro_ne (re_var 7) (re_var 5))) (re_call (ra_cons (re_var 0) (ra_cons (re_var 4) (ra_cons (re_op ro_ix (re_var 1) (re_var 7)) (ra_cons (re_neg (re_op ro_ix (re_var 3) (re_var 7))) (ra_cons (re_op ro_ix (re_var 1) (re_var 5)) ra_nil)))))))))))))⟩
theorem sc_conic : FnScope ["p", "a", "b", "c", "d", "e", "conics", "x", "i"] ["p", "a", "b", "c", "d", "e"] (defScope s_conic) := ⟨rfl, rfl, rfl, by decide +kernel, rfl, by decide +kernel, by decide +kernel⟩
theorem ok_conic {f : Addr} {fd : FuncData} (F : Fun K "conic" "conic" s_conic f fd) (c_are_triples : Cal P w K mg base 2 "are_triples" ["p", "lists"] 2 d_are_triples) (c_narrowed : Cal P w K mg base 2 "narrowed" ["p", "conics", "x"] 3 d_narrowed) (c_form_of : Cal P w K mg base 2 "form_of" ["p", "numbers"] 2 d_form_of) (z_range : mg "range" = none) (z_len : mg "len" = none) {gv_ODD_PRIMES : V} {gu_ODD_PRIMES : Value} (g_ODD_PRIMES : mg "ODD_PRIMES" = some gu_ODD_PRIMES ∧ RelV gv_ODD_PRIMES gu_ODD_PRIMES ∧ ∀ H, Dw K H gv_ODD_PRIMES gd_ODD_PRIMES) : FnOk P w K mg base CX0 3 f fd ["p", "a", "b", "c", "d", "e"] (spF K 6 d_conic) :=
  den_ok (k := 2) (N := ["p", "a", "b", "c", "d", "e", "conics", "x", "i"]) F sc_conic fun cdv A outer s H E hr => ⟨_, (pss_cons (ps_if (pt_not (PW.pt (pw_and (pt_cmpR op_in_seq (pv 0) (pe_glob (by rfl) g_ODD_PRIMES.1 g_ODD_PRIMES.2.1) (by with_unfolding_all rfl)) (pw_and1 (pt_val (pe_cal c_are_triples hr (by decide) (by rfl) (pa_cons (pv 0) (pa_cons (pe_lst (pa_cons (pv 1) (pa_cons (pv 2) (pa_cons (pv 3) (pa_cons (pv 4) (pa_cons (pv 5) pa_nil)))))) pa_nil))))))))
  (pss_one (ps_ret (pe_lst (pa_cons (pe_un un_neg pe_int) pa_nil))))
  pss_nil)
  (pss_cons (ps_setLc (i := 6) rfl sc_conic.nd rfl rfl (sw_true rfl rfl rfl rfl) (pi_range1 rfl z_range (pa_cons pe_int pa_nil)) (blkOk_by (N := ["p", "a", "b", "c", "d", "e", "conics", "x", "i"]) (sc := defScope s_conic) (own := [("i", 8)]) (by decide +kernel)) (fun _ _ _ _ _ => pg_name (i := 8) sc_conic.nd rfl (Or.inl rfl)) (fun _ _ _ _ _ => pts_nil) (fun _ _ _ _ _ => (pe_op op_catL (pe_op op_catL (pe_op op_rep (pe_lst (pa_cons pe_int pa_nil)) (pv 8)) (pe_lst (pa_cons pe_int pa_nil))) (pe_op op_rep (pe_lst (pa_cons pe_int pa_nil)) (pe_op op_sub pe_int (pv 8))))))
  (pss_cons (ps_for PassesOwn.never rfl (pi_list (pe_lst (pa_cons (pv 1) (pa_cons (pv 2) (pa_cons (pv 3) (pa_cons (pv 4) (pa_cons (pv 5) pa_nil))))))) (pg_name (i := 7) sc_conic.nd rfl (Or.inl rfl))
  (pss_one (ps_set (i := 6) sc_conic.nd rfl (Or.inl rfl) (pe_cal c_narrowed hr (by decide) (by rfl) (pa_cons (pv 0) (pa_cons (pv 6) (pa_cons (pv 7) pa_nil)))))))
  (pss_cons (ps_if (pt_cmpR op_gt (pe_callB call_len_seq (by rfl) z_len PySem.boot_len (pa_cons (pv 6) pa_nil)) pe_int (nomark _))
  (pss_one (ps_ret (pe_lst (pa_cons (pe_un un_neg pe_int) pa_nil))))
  pss_nil)
  (pss_one (ps_ret (pe_op op_catL (pe_lst (pa_cons pe_int pa_nil)) (pe_cal c_form_of hr (by decide) (by rfl) (pa_cons (pv 0) (pa_cons (pe_ix ix_seq (pv 6) pe_int (fun _ _ => rfl)) pa_nil)))))))))),
  (rs_seq (rs_if (rt_not (rt_and (rt_test (re_op ro_in (re_var 0) (re_c g_ODD_PRIMES.2.2))) (rt_b (re_call (ra_cons (re_var 0) (ra_cons (re_rf (rf_lst (ra_cons (re_var 1) (ra_cons (re_var 2) (ra_cons (re_var 3) (ra_cons (re_var 4) (ra_cons (re_var 5) ra_nil))))))) ra_nil))))))
  (rs_ret (re_rf (rf_lst (ra_cons (re_neg (re_int 1)) ra_nil))))
  rs_nil)
  (rs_seq (rs_set (i := 6) (re_rf (rf_lcR1 (i := 8) (ra_cons (re_int 6) ra_nil) rt_yes (re_rf (rf_cat (re_rf (rf_cat (re_rf (rf_rep (rf_lst (ra_cons (re_int 0) ra_nil)) (re_var 8))) (re_rf (rf_lst (ra_cons (re_int 1) ra_nil))))) (re_rf (rf_rep (rf_lst (ra_cons (re_int 0) ra_nil)) (re_op ro_sub (re_int 5) (re_var 8)))))))))
  (rs_seq (rs_for (i := 7) (re_rf (rf_lst (ra_cons (re_var 1) (ra_cons (re_var 2) (ra_cons (re_var 3) (ra_cons (re_var 4) (ra_cons (re_var 5) ra_nil)))))))
  (rs_set (i := 6) (re_call (ra_cons (re_var 0) (ra_cons (re_var 6) (ra_cons (re_var 7) ra_nil))))))
  (rs_seq (rs_if (rt_test (re_op ro_gt (re_cb rc_len (ra_cons (re_var 6) ra_nil)) (re_int 1)))
  (rs_ret (re_rf (rf_lst (ra_cons (re_neg (re_int 2)) ra_nil))))
  rs_nil)
  (rs_ret (re_rf (rf_cat (re_rf (rf_lst (ra_cons (re_int 0) ra_nil))) (re_call (ra_cons (re_var 0) (ra_cons (re_op ro_ix (re_var 6) (re_int 0)) ra_nil))))))))))⟩
end

theorem all_mk {P : Program} {w : World} {K : PySem.W.Frag} {h : Heap} {mg : Str → Option Value} {fa : Addr} (X : K.In h) (G : h.Ns mainGlobals mg) (hfa : mg "conic" = some (.ref fa))
    {f0 : Addr} {od0 an0 : Option Addr} {sl0 : Array (Option Value)} {oc0 kV0 dc0 pm0 cd0 ct0 : Value} (a0 : PySem.W.nsIn K mainGlobals "first_not_zero" = some (some (.ref f0))) (l0 : K.lookup f0 = some ⟨oc0, od0, .func (PySem.W.fnOf "first_not_zero" "first_not_zero" (defArgs s_first_not_zero) (defBody s_first_not_zero) (defScope s_first_not_zero) .none kV0 dc0 pm0 an0 cd0 ct0), sl0⟩) (e0 : PySem.W.codeIn K cd0 "first_not_zero" = true) (k0 : PySem.W.keepIn K (.ref f0) = true)
    {f1 : Addr} {od1 an1 : Option Addr} {sl1 : Array (Option Value)} {oc1 kV1 dc1 pm1 cd1 ct1 : Value} (a1 : PySem.W.nsIn K mainGlobals "are_triples" = some (some (.ref f1))) (l1 : K.lookup f1 = some ⟨oc1, od1, .func (PySem.W.fnOf "are_triples" "are_triples" (defArgs s_are_triples) (defBody s_are_triples) (defScope s_are_triples) .none kV1 dc1 pm1 an1 cd1 ct1), sl1⟩) (e1 : PySem.W.codeIn K cd1 "are_triples" = true) (k1 : PySem.W.keepIn K (.ref f1) = true)
    {f2 : Addr} {od2 an2 : Option Addr} {sl2 : Array (Option Value)} {oc2 kV2 dc2 pm2 cd2 ct2 : Value} (a2 : PySem.W.nsIn K mainGlobals "inverse" = some (some (.ref f2))) (l2 : K.lookup f2 = some ⟨oc2, od2, .func (PySem.W.fnOf "inverse" "inverse" (defArgs s_inverse) (defBody s_inverse) (defScope s_inverse) .none kV2 dc2 pm2 an2 cd2 ct2), sl2⟩) (e2 : PySem.W.codeIn K cd2 "inverse" = true) (k2 : PySem.W.keepIn K (.ref f2) = true)
    {f3 : Addr} {od3 an3 : Option Addr} {sl3 : Array (Option Value)} {oc3 kV3 dc3 pm3 cd3 ct3 : Value} (a3 : PySem.W.nsIn K mainGlobals "form_of" = some (some (.ref f3))) (l3 : K.lookup f3 = some ⟨oc3, od3, .func (PySem.W.fnOf "form_of" "form_of" (defArgs s_form_of) (defBody s_form_of) (defScope s_form_of) .none kV3 dc3 pm3 an3 cd3 ct3), sl3⟩) (e3 : PySem.W.codeIn K cd3 "form_of" = true) (k3 : PySem.W.keepIn K (.ref f3) = true)
    {f4 : Addr} {od4 an4 : Option Addr} {sl4 : Array (Option Value)} {oc4 kV4 dc4 pm4 cd4 ct4 : Value} (a4 : PySem.W.nsIn K mainGlobals "mixed" = some (some (.ref f4))) (l4 : K.lookup f4 = some ⟨oc4, od4, .func (PySem.W.fnOf "mixed" "mixed" (defArgs s_mixed) (defBody s_mixed) (defScope s_mixed) .none kV4 dc4 pm4 an4 cd4 ct4), sl4⟩) (e4 : PySem.W.codeIn K cd4 "mixed" = true) (k4 : PySem.W.keepIn K (.ref f4) = true)
    {f5 : Addr} {od5 an5 : Option Addr} {sl5 : Array (Option Value)} {oc5 kV5 dc5 pm5 cd5 ct5 : Value} (a5 : PySem.W.nsIn K mainGlobals "value_at" = some (some (.ref f5))) (l5 : K.lookup f5 = some ⟨oc5, od5, .func (PySem.W.fnOf "value_at" "value_at" (defArgs s_value_at) (defBody s_value_at) (defScope s_value_at) .none kV5 dc5 pm5 an5 cd5 ct5), sl5⟩) (e5 : PySem.W.codeIn K cd5 "value_at" = true) (k5 : PySem.W.keepIn K (.ref f5) = true)
    {f6 : Addr} {od6 an6 : Option Addr} {sl6 : Array (Option Value)} {oc6 kV6 dc6 pm6 cd6 ct6 : Value} (a6 : PySem.W.nsIn K mainGlobals "narrowed" = some (some (.ref f6))) (l6 : K.lookup f6 = some ⟨oc6, od6, .func (PySem.W.fnOf "narrowed" "narrowed" (defArgs s_narrowed) (defBody s_narrowed) (defScope s_narrowed) .none kV6 dc6 pm6 an6 cd6 ct6), sl6⟩) (e6 : PySem.W.codeIn K cd6 "narrowed" = true) (k6 : PySem.W.keepIn K (.ref f6) = true)
    {f7 : Addr} {od7 an7 : Option Addr} {sl7 : Array (Option Value)} {oc7 kV7 dc7 pm7 cd7 ct7 : Value} (a7 : PySem.W.nsIn K mainGlobals "conic" = some (some (.ref f7))) (l7 : K.lookup f7 = some ⟨oc7, od7, .func (PySem.W.fnOf "conic" "conic" (defArgs s_conic) (defBody s_conic) (defScope s_conic) .none kV7 dc7 pm7 an7 cd7 ct7), sl7⟩) (e7 : PySem.W.codeIn K cd7 "conic" = true) (k7 : PySem.W.keepIn K (.ref f7) = true)
    (zz_all : PySem.W.nsIn K mainGlobals "all" = some none)
    (zz_len : PySem.W.nsIn K mainGlobals "len" = some none)
    (zz_range : PySem.W.nsIn K mainGlobals "range" = some none)
    {ga_ODD_PRIMES : Addr} {god_ODD_PRIMES : Option Addr} {gi_ODD_PRIMES : Array Value} {gn_ODD_PRIMES : Nat} {gs_ODD_PRIMES : Array (Option Value)} (gg_ODD_PRIMES : PySem.W.nsIn K mainGlobals "ODD_PRIMES" = some (some (.ref ga_ODD_PRIMES))) (gl_ODD_PRIMES : K.lookup ga_ODD_PRIMES = some ⟨.type "tuple", god_ODD_PRIMES, .seq gi_ODD_PRIMES gn_ODD_PRIMES, gs_ODD_PRIMES⟩) (gz_ODD_PRIMES : gi_ODD_PRIMES.size ≤ sizeLine) (gv_ODD_PRIMES : Vals (([3, 5, 7, 11, 13, 17, 19, 23, 29, 31] : List Int).map V.int) gi_ODD_PRIMES.toList) :
    ∃ fd : FuncData, (∀ (s : Shared) (us : List Value), us.length = (["p", "a", "b", "c", "d", "e"] : List Str).length → BindsTo s fd ⟨us, []⟩ ((["p", "a", "b", "c", "d", "e"] : List Str).zip us)) ∧ ∀ base : Heap, K.In base → base.Ns mainGlobals mg → FnOk P w K mg base CX0 3 fa fd ["p", "a", "b", "c", "d", "e"] (spF K 6 d_conic) := by
  have e := hfa.symm.trans (PySem.W.mg_of X G a7)
  cases e
  have z_all := PySem.W.mg_none_of X G zz_all
  have z_len := PySem.W.mg_none_of X G zz_len
  have z_range := PySem.W.mg_none_of X G zz_range
  have g_ODD_PRIMES : mg "ODD_PRIMES" = some (.ref ga_ODD_PRIMES) ∧ RelV (.ref ga_ODD_PRIMES) (.ref ga_ODD_PRIMES) ∧ ∀ H, Dw K H (.ref ga_ODD_PRIMES) gd_ODD_PRIMES := ⟨PySem.W.mg_of X G gg_ODD_PRIMES, rfl, fun H => .tup (.inr ⟨_, gi_ODD_PRIMES, gn_ODD_PRIMES, gl_ODD_PRIMES, rfl, rfl, gz_ODD_PRIMES, gv_ODD_PRIMES⟩) (dw_ints _)⟩
  have F0 := fun_mk (st := s_first_not_zero) l0 e0 k0
  have b0 := F0.binds (ps := ["p", "numbers"]) fun _ _ _ _ _ _ us hl => match us, hl with | [_, _], _ => rfl
  have F1 := fun_mk (st := s_are_triples) l1 e1 k1
  have b1 := F1.binds (ps := ["p", "lists"]) fun _ _ _ _ _ _ us hl => match us, hl with | [_, _], _ => rfl
  have F2 := fun_mk (st := s_inverse) l2 e2 k2
  have b2 := F2.binds (ps := ["p", "a"]) fun _ _ _ _ _ _ us hl => match us, hl with | [_, _], _ => rfl
  have F3 := fun_mk (st := s_form_of) l3 e3 k3
  have b3 := F3.binds (ps := ["p", "numbers"]) fun _ _ _ _ _ _ us hl => match us, hl with | [_, _], _ => rfl
  have F4 := fun_mk (st := s_mixed) l4 e4 k4
  have b4 := F4.binds (ps := ["p", "s", "x", "t", "y"]) fun _ _ _ _ _ _ us hl => match us, hl with | [_, _, _, _, _], _ => rfl
  have F5 := fun_mk (st := s_value_at) l5 e5 k5
  have b5 := F5.binds (ps := ["p", "k", "x"]) fun _ _ _ _ _ _ us hl => match us, hl with | [_, _, _], _ => rfl
  have F6 := fun_mk (st := s_narrowed) l6 e6 k6
  have b6 := F6.binds (ps := ["p", "conics", "x"]) fun _ _ _ _ _ _ us hl => match us, hl with | [_, _, _], _ => rfl
  have F7 := fun_mk (st := s_conic) l7 e7 k7
  refine ⟨PySem.W.fnOf "conic" "conic" (defArgs s_conic) (defBody s_conic) (defScope s_conic) .none kV7 dc7 pm7 an7 cd7 ct7, fun s us hu => match us, hu with | [_, _, _, _, _, _], _ => .of_eq rfl, fun base _ _ => ?_⟩
  have c_first_not_zero : Cal P w K mg base 1 "first_not_zero" ["p", "numbers"] 2 d_first_not_zero := ⟨_, _, ok_first_not_zero F0, PySem.W.mg_of X G a0, k0, b0⟩
  have c_are_triples : Cal P w K mg base 2 "are_triples" ["p", "lists"] 2 d_are_triples := ⟨_, _, ok_are_triples F1 c_first_not_zero z_len z_all, PySem.W.mg_of X G a1, k1, b1⟩
  have c_inverse : Cal P w K mg base 1 "inverse" ["p", "a"] 2 d_inverse := ⟨_, _, ok_inverse F2 z_range, PySem.W.mg_of X G a2, k2, b2⟩
  have c_form_of : Cal P w K mg base 2 "form_of" ["p", "numbers"] 2 d_form_of := ⟨_, _, ok_form_of F3 c_first_not_zero c_inverse, PySem.W.mg_of X G a3, k3, b3⟩
  have c_mixed : Cal P w K mg base 1 "mixed" ["p", "s", "x", "t", "y"] 5 d_mixed := ⟨_, _, ok_mixed F4 z_range z_len, PySem.W.mg_of X G a4, k4, b4⟩
  have c_value_at : Cal P w K mg base 1 "value_at" ["p", "k", "x"] 3 d_value_at := ⟨_, _, ok_value_at F5, PySem.W.mg_of X G a5, k5, b5⟩
  have c_narrowed : Cal P w K mg base 2 "narrowed" ["p", "conics", "x"] 3 d_narrowed := ⟨_, _, ok_narrowed F6 c_value_at c_first_not_zero c_mixed z_range z_len, PySem.W.mg_of X G a6, k6, b6⟩
  exact ok_conic F7 c_are_triples c_narrowed c_form_of z_range z_len g_ODD_PRIMES
end Pb
end
open PySem PySem.W PyProof.Rows
set_option maxRecDepth 100000 in
set_option maxHeartbeats 0 in
theorem PySem.Challenge.cw_planebook_s15_conic_holds : PySem.Challenge.rw_planebook_s15_conic.Holds := by
  w_on; k_headS; (case hw => exact ⟨[.int 0, .list [], .list [], .list [], .list [], .list []], by decide +kernel, by decide +kernel⟩)
  k_fillS
  refine L2.walk_specK (r := PySem.Challenge.rw_planebook_s15_conic) (k := 3) (CX := L2.CX0) (ps := ["p", "a", "b", "c", "d", "e"]) (sp := fun K => Dn.spF K 6 Pb.d_conic) (by decide +kernel) rfl rfl ⟨rfl, by decide, by decide⟩ (fun w h Y => PySem.W.kIn_of Y) ?F ?S (fun _ _ _ _ z => z)
  case F =>
    intro w mg fa h Y KX G hmg
    refine' Pb.all_mk KX G hmg ?a0 ?l0 ?e0 ?k0 ?a1 ?l1 ?e1 ?k1 ?a2 ?l2 ?e2 ?k2 ?a3 ?l3 ?e3 ?k3 ?a4 ?l4 ?e4 ?k4 ?a5 ?l5 ?e5 ?k5 ?a6 ?l6 ?e6 ?k6 ?a7 ?l7 ?e7 ?k7 ?zz_all ?zz_len ?zz_range ?gg_ODD_PRIMES ?gl_ODD_PRIMES ?gz_ODD_PRIMES ?gv_ODD_PRIMES
    (case a0 => k_is)
    (case l0 => k_is)
    (case e0 => k_is)
    (case k0 => k_is)
    (case a1 => k_is)
    (case l1 => k_is)
    (case e1 => k_is)
    (case k1 => k_is)
    (case a2 => k_is)
    (case l2 => k_is)
    (case e2 => k_is)
    (case k2 => k_is)
    (case a3 => k_is)
    (case l3 => k_is)
    (case e3 => k_is)
    (case k3 => k_is)
    (case a4 => k_is)
    (case l4 => k_is)
    (case e4 => k_is)
    (case k4 => k_is)
    (case a5 => k_is)
    (case l5 => k_is)
    (case e5 => k_is)
    (case k5 => k_is)
    (case a6 => k_is)
    (case l6 => k_is)
    (case e6 => k_is)
    (case k6 => k_is)
    (case a7 => k_is)
    (case l7 => k_is)
    (case e7 => k_is)
    (case k7 => k_is)
    (case zz_all => k_is)
    (case zz_len => k_is)
    (case zz_range => k_is)
    (case gg_ODD_PRIMES => k_is)
    (case gl_ODD_PRIMES => k_is)
    (case gz_ODD_PRIMES => decide +kernel)
    (case gv_ODD_PRIMES => exact (.cons ⟨_, rfl⟩ (.cons ⟨_, rfl⟩ (.cons ⟨_, rfl⟩ (.cons ⟨_, rfl⟩ (.cons ⟨_, rfl⟩ (.cons ⟨_, rfl⟩ (.cons ⟨_, rfl⟩ (.cons ⟨_, rfl⟩ (.cons ⟨_, rfl⟩ (.cons ⟨_, rfl⟩ (.nil))))))))))))
  case S =>
    intro K H xs a hO hwi hask hx
    exact Dn.last_sp hx (by rfl) (Pb.conic_law a.1 a.2.1 a.2.2.1 a.2.2.2.1 a.2.2.2.2.1 a.2.2.2.2.2.1 (Pb.row9_of (Pb.in1 (Pb.in1 hwi).2).1) (Pb.row9_of (Pb.in1 (Pb.in1 (Pb.inx hwi)).2).1) (Pb.row9_of (Pb.in1 (Pb.in1 (Pb.inx (Pb.inx hwi))).2).1) (Pb.row9_of (Pb.in1 (Pb.in1 (Pb.inx (Pb.inx (Pb.inx hwi)))).2).1) (Pb.row9_of (Pb.in1 (Pb.in1 (Pb.inx (Pb.inx (Pb.inx (Pb.inx hwi))))).2).1))
#print axioms PySem.Challenge.cw_planebook_s15_conic_holds
