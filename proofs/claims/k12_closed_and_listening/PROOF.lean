import PyProof.Rows.All
import Wide.All
import OpenK.AllK
import Wide.FinOn
import Lean
import PyProof.EqAt
import PyProof.EqKinds
import PyProof.TupleCall
import PySem.Challenge.RW_wirestream_k12_closed_and_listening
set_option Elab.async false
set_option linter.all false
set_option maxRecDepth 100000
namespace L2
open PySem PySem.Spec PyProof.Rows
abbrev Key := Sum Int Str
def keyIs : Key → Value → Bool
  | .inl k, v => Value.isInt k v
  | .inr x, v => Value.isStrOf x v
def keyH (w : World) : Key → Int
  | .inl k => hashInt k
  | .inr x => hashStr w x
theorem keyIs_shape : ∀ {k : Key} {v : Value}, keyIs k v = true → (∃ i t, k = Sum.inl i ∧ v = Value.int i t) ∨ (∃ x t, k = Sum.inr x ∧ v = Value.str x t)
  | .inl i, v, h => by
    obtain ⟨t, e⟩ := Value.isInt_shape (k := i) (v := v) h
    exact .inl ⟨i, t, rfl, e⟩
  | .inr x, v, h => by
    obtain ⟨t, e⟩ := Value.isStrOf_shape (x := x) (v := v) h
    exact .inr ⟨x, t, rfl, e⟩
theorem key_ll (a b : Int) : decide ((Sum.inl a : Key) = Sum.inl b) = (a == b) := by
  by_cases e : a = b
  · subst e; simp
  · have h : ¬ (Sum.inl a : Key) = Sum.inl b := fun q => e (Sum.inl.inj q)
    rw [decide_eq_false h]
    exact (beq_eq_false_iff_ne.mpr e).symm
theorem key_rr (a b : Str) : decide ((Sum.inr a : Key) = Sum.inr b) = decide (a = b) := by
  by_cases e : a = b
  · subst e; simp
  · have h : ¬ (Sum.inr a : Key) = Sum.inr b := fun q => e (Sum.inr.inj q)
    rw [decide_eq_false h, decide_eq_false e]
theorem key_lr (a : Int) (b : Str) : decide ((Sum.inl a : Key) = Sum.inr b) = false := decide_eq_false (fun q => nomatch q)
theorem key_rl (a : Str) (b : Int) : decide ((Sum.inr a : Key) = Sum.inl b) = false := decide_eq_false (fun q => nomatch q)
def mixKind (prog : Program) (w : World) : PySem.KeyKind prog w Key where
  is := keyIs
  hash := keyH w
  inj := fun v a b ha hb => by
    rcases keyIs_shape ha with ⟨i, t, rfl, rfl⟩ | ⟨x, t, rfl, rfl⟩
    · rcases keyIs_shape hb with ⟨j, u, rfl, e⟩ | ⟨y, u, rfl, e⟩
      · injection e with e1 _; rw [e1]
      · exact nomatch e
    · rcases keyIs_shape hb with ⟨j, u, rfl, e⟩ | ⟨y, u, rfl, e⟩
      · exact nomatch e
      · injection e with e1 _; rw [e1]
  byValue := fun k v h => by
    rcases keyIs_shape h with ⟨i, t, rfl, rfl⟩ | ⟨x, t, rfl, rfl⟩ <;> rfl
  pyHash := fun hv h => by
    rcases keyIs_shape hv with ⟨i, t, rfl, rfl⟩ | ⟨x, t, rfl, rfl⟩
    · exact wpAny_pyHash_int h
    · exact wpAny_pyHash_str h
  eqBool := fun hu hv h => by
    rcases keyIs_shape hu with ⟨i, t, rfl, rfl⟩ | ⟨x, t, rfl, rfl⟩
    · rcases keyIs_shape hv with ⟨j, u, rfl, rfl⟩ | ⟨y, u, rfl, rfl⟩
      · rw [key_ll] at h; exact wpAny_eqBool_int h
      · rw [key_lr] at h; exact SeqAt.EqAt.int_str i t y u _ _ _ _ h
    · rcases keyIs_shape hv with ⟨j, u, rfl, rfl⟩ | ⟨y, u, rfl, rfl⟩
      · rw [key_rl] at h; exact SeqAt.EqAt.str_int x t j u _ _ _ _ h
      · rw [key_rr] at h; exact wpAny_eqBool_str h
  «strs» := fun k x t v h => by
    rcases keyIs_shape h with ⟨i, u, rfl, e⟩ | ⟨y, u, rfl, e⟩
    · exact nomatch e
    · injection e with e1 _
      subst e1
      cases v <;> rfl
end L2
namespace L2
open PySem PySem.Spec PyProof.Rows
inductive V where
  | non | bl (b : Bool) | int (i : Int) | str (x : Str) | byt (b : Array UInt8) | flt (b : UInt64) | ref (a : Addr) | ty (n : String)
  deriving DecidableEq
def RelV : V → Value → Prop
  | .non, u => u = Value.none
  | .bl b, u => u = Value.bool b
  | .int i, u => ∃ t, u = Value.int i t
  | .str x, u => ∃ t, u = Value.str x t
  | .byt b, u => ∃ t, u = Value.bytes b t
  | .flt b, u => ∃ t, u = Value.float b t
  | .ref a, u => u = Value.ref a
  | .ty n, u => u = Value.type n
abbrev Vals : List V → List Value → Prop := Paired RelV
theorem Vals.length {xs : List V} {us : List Value} (r : Vals xs us) : xs.length = us.length := Paired.length r
theorem Vals.get : ∀ {xs : List V} {us : List Value} {i : Nat} {x : V}, Vals xs us → xs[i]? = some x → ∃ u, us[i]? = some u ∧ RelV x u
  | _, _, _, _, .nil, e => by simp at e
  | _, _, 0, _, .cons r _, e => by simp at e; subst e; exact ⟨_, rfl, r⟩
  | _, _, i + 1, x, .cons _ t, e => by
    obtain ⟨u, h1, h2⟩ := Vals.get (i := i) (x := x) t (by simpa using e)
    exact ⟨u, by simpa using h1, h2⟩
theorem Vals.set {x : V} {u : Value} (r : RelV x u) : ∀ {xs : List V} {us : List Value} (i : Nat), Vals xs us → Vals (xs.set i x) (us.set i u)
  | _, _, _, .nil => .nil
  | _, _, 0, .cons _ t => .cons r t
  | _, _, i + 1, .cons q t => .cons q (Vals.set r i t)
theorem Vals.append : ∀ {xs ys : List V} {us ws : List Value}, Vals xs us → Vals ys ws → Vals (xs ++ ys) (us ++ ws)
  | _, _, _, _, .nil, s => s
  | _, _, _, _, .cons r t, s => .cons r (Vals.append t s)
theorem Vals.take : ∀ {xs : List V} {us : List Value} (n : Nat), Vals xs us → Vals (xs.take n) (us.take n)
  | _, _, 0, _ => .nil
  | _, _, _ + 1, .nil => .nil
  | _, _, n + 1, .cons r t => .cons r (Vals.take n t)
theorem Vals.drop : ∀ {xs : List V} {us : List Value} (n : Nat), Vals xs us → Vals (xs.drop n) (us.drop n)
  | _, _, 0, r => r
  | _, _, _ + 1, .nil => .nil
  | _, _, n + 1, .cons _ t => Vals.drop n t
theorem Vals.none_of : ∀ {xs : List V} {us : List Value} {i : Nat}, Vals xs us → xs[i]? = none → us[i]? = none := fun {xs us i} r e => by
  have h1 := r.length
  have h2 : xs.length ≤ i := List.getElem?_eq_none_iff.mp e
  exact List.getElem?_eq_none_iff.mpr (by omega)
def RelO : Option V → Option Value → Prop
  | some v, some u => RelV v u
  | none, none => True
  | _, _ => False
def KV {κ : Type} : List (κ × V) → List (κ × Value) → Prop := Paired fun (p : κ × V) (q : κ × Value) => p.1 = q.1 ∧ RelV p.2 q.2
def kV : Key → V
  | .inl i => .int i
  | .inr x => .str x
inductive HO where
  | lst (xs : List V)
  | tup (xs : List V)
  | dK (kvs : List (Key × V)) | dT (kvs : List (List Key × V))
  | set (S : Int → Bool) (n : Nat)
  | ins (C dx : Addr) (fs : List (Str × V))
  | own (x : Addr)
  | xd (fs : List (Str × V))
  | met (f x : Addr)
  | rng (lo hi : Int)
  | frz (o : Obj) (u : HO)
  | tbl (ps : Array Value)
  | ext (φ : Heap → Prop)
abbrev Hp := Addr → Option HO
def upd (H : Hp) (a : Addr) (o : HO) : Hp := fun b => if b = a then some o else H b
theorem upd_same {H : Hp} {a : Addr} {o : HO} : upd H a o a = some o := by unfold upd; rw [if_pos rfl]
theorem upd_ne {H : Hp} {a b : Addr} {o : HO} (h : b ≠ a) : upd H a o b = H b := by unfold upd; rw [if_neg h]
theorem ne_of_none {H : Hp} {a b : Addr} {o : HO} (h : H a = some o) (h' : H b = none) : a ≠ b := by
  intro e; subst e; rw [h] at h'; cases h'
section
variable (P : Program) (w : World)
def ObjOk (H : Hp) (h : Heap) (a : Addr) : HO → Prop
  | .lst xs => xs.length ≤ sizeLine ∧ ∃ (its : List Value) (n : Nat), Vals xs its ∧ h.get? a = some { cls := .type "list", data := .seq its.toArray n }
  | .tup xs => xs.length ≤ sizeLine ∧ ∃ its : List Value, Vals xs its ∧ IsTup h a its.toArray
  | .dK kvs => kvs.length ≤ sizeLine ∧ (a == sysModules) = false ∧ ∃ vs, KV kvs vs ∧ h.DictOf (mixKind P w) a vs
  | .dT kvs => kvs.length ≤ sizeLine ∧ (a == sysModules) = false ∧ ∃ xs : List (List Key × Addr × Value),
      Paired (fun (p : List Key × V) (q : List Key × Addr × Value) => p.1 = q.1 ∧ H q.2.1 = some (.tup (p.1.map kV)) ∧ RelV p.2 q.2.2) kvs xs ∧
      ∃ o es ep, h.get? a = some o ∧ o.ExactDict ∧ o.data = .dict es ep ∧ es.toList = xs.map (entryOfKey (tupleKind (mixKind P w))) ∧ (xs.map (·.1)).Nodup
  | .set S n => h.SetOf (intKind P w) a S n
  | .ins C dx fs => H dx = some (.own a) ∧ fs.length ≤ 1000 ∧ dx ≠ a ∧ h.get? a = some (PySem.W.instObj C dx) ∧
      ∃ mA, h.Ns1 dx mA ∧ (∀ f, RelO (fs.lookup f) (mA f)) ∧ PySem.Within mA (fs.map (·.1))
  | .own _ => ∃ o, h.get? a = some o
  | .xd fs => ∃ mA, h.Ns1 a mA ∧ ∀ f, RelO (fs.lookup f) (mA f)
  | .rng lo hi => ∃ t u v, h.get? a = some { cls := .type "range", data := .fields #[.int lo t, .int hi u, .int 1 v] }
  | .frz o u => h.get? a = some o ∧ ObjOk H h a u
  | .tbl ps => h.get? a = some { cls := .none, data := .fields ps }
  | .met f x => h.get? a = some (PySem.W.methodObj (.ref f) (.ref x))
  | .ext φ => φ h ∧ (∃ o, h.get? a = some o) ∧ ∀ h1 h2 : Heap, φ h1 → (∀ o, h1.get? a = some o → h2.get? a = some o) → φ h2
def HOk (H : Hp) (h : Heap) : Prop := ∀ a o, H a = some o → ObjOk P w H h a o
end
section
variable {P : Program} {w : World} {H H' : Hp} {h h' : Heap} {a : Addr} {o : HO}
theorem ObjOk.lt (x : ObjOk P w H h a o) : a < h.objs.size := by
  cases o with
  | lst xs => obtain ⟨_, _, _, _, e⟩ := x; exact Heap.lt_size e
  | tup xs => obtain ⟨_, _, _, p⟩ := x; exact p.lt
  | dK kvs => obtain ⟨_, _, _, _, o, _, _, e, _⟩ := x; exact Heap.lt_size e
  | dT kvs => obtain ⟨_, _, _, _, o, _, _, e, _⟩ := x; exact Heap.lt_size e
  | set S n => obtain ⟨o, _, _, _, e, _⟩ := x; exact Heap.lt_size e
  | ins C dx fs => obtain ⟨_, _, _, e, _⟩ := x; exact Heap.lt_size e
  | own y => obtain ⟨_, e⟩ := x; exact Heap.lt_size e
  | xd fs => obtain ⟨_, ⟨_, _, _, e, _⟩, _⟩ := x; exact Heap.lt_size e
  | rng lo hi => obtain ⟨_, _, _, e⟩ := x; exact Heap.lt_size e
  | frz ob u => obtain ⟨e, _⟩ := x; exact Heap.lt_size e
  | tbl ps => exact Heap.lt_size (show h.get? a = some _ from x)
  | met f y => exact Heap.lt_size (show h.get? a = some _ from x)
  | ext φ => obtain ⟨_, ⟨_, e⟩, _⟩ := x; exact Heap.lt_size e
theorem Paired.mapP {α β : Type} {F G : α → β → Prop} : ∀ {l₁ : List α} {l₂ : List β}, Paired F l₁ l₂ → (∀ a b, F a b → G a b) → Paired G l₁ l₂
  | _, _, .nil, _ => .nil
  | _, _, .cons r t, f => .cons (f _ _ r) (Paired.mapP t f)
theorem ObjOk.stay (x : ObjOk P w H h a o) (k : ∀ b u, (b = a ∨ H b = some (.own a)) → h.get? b = some u → h'.get? b = some u)
    (ho : ∀ b, H b = some (.own a) → H' b = some (.own a)) (ht : ∀ b xs, H b = some (.tup xs) → H' b = some (.tup xs)) : ObjOk P w H' h' a o := by
  induction o with
  | lst xs => obtain ⟨z, its, n, r, e⟩ := x; exact ⟨z, its, n, r, k _ _ (.inl rfl) e⟩
  | tup xs => obtain ⟨z, its, r, ob, e, c⟩ := x; exact ⟨z, its, r, ob, k _ _ (.inl rfl) e, c⟩
  | dK kvs => obtain ⟨z, y, vs, r, ob, es, ep, e, c⟩ := x; exact ⟨z, y, vs, r, ob, es, ep, k _ _ (.inl rfl) e, c⟩
  | dT kvs =>
    obtain ⟨z, y, xs, r, ob, es, ep, e, c⟩ := x
    exact ⟨z, y, xs, Paired.mapP r fun p q z => ⟨z.1, ht _ _ z.2.1, z.2.2⟩, ob, es, ep, k _ _ (.inl rfl) e, c⟩
  | set S n => obtain ⟨ob, es, ep, t, e, c⟩ := x; exact ⟨ob, es, ep, t, k _ _ (.inl rfl) e, c⟩
  | ins C dx fs =>
    obtain ⟨d, z, ne, e, mA, ⟨od, es, ep, e2, c⟩, r⟩ := x
    exact ⟨ho _ d, z, ne, k _ _ (.inl rfl) e, mA, ⟨od, es, ep, k _ _ (.inr d) e2, c⟩, r⟩
  | own y => obtain ⟨ob, e⟩ := x; exact ⟨ob, k _ _ (.inl rfl) e⟩
  | xd fs => obtain ⟨mA, ⟨od, es, ep, e, c⟩, r⟩ := x; exact ⟨mA, ⟨od, es, ep, k _ _ (.inl rfl) e, c⟩, r⟩
  | rng lo hi => obtain ⟨t, u, v, e⟩ := x; exact ⟨t, u, v, k _ _ (.inl rfl) e⟩
  | frz ob u ih => obtain ⟨e, q⟩ := x; exact ⟨k _ _ (.inl rfl) e, ih q⟩
  | tbl ps =>
    have e : h.get? a = some { cls := .none, data := .fields ps } := x
    show h'.get? a = some { cls := .none, data := .fields ps }
    exact k a _ (.inl rfl) e
  | met f y =>
    have e : h.get? a = some (PySem.W.methodObj (.ref f) (.ref y)) := x
    show h'.get? a = some (PySem.W.methodObj (.ref f) (.ref y))
    exact k a _ (.inl rfl) e
  | ext φ => obtain ⟨p, ⟨o, e⟩, st⟩ := x; exact ⟨st _ _ p fun o q => k _ _ (.inl rfl) q, ⟨o, k _ _ (.inl rfl) e⟩, st⟩
theorem HOk.lt (x : HOk P w H h) (e : H a = some o) : a < h.objs.size := (x a o e).lt
theorem HOk.fresh (x : HOk P w H h) (e : h.objs.size ≤ a) : H a = none := by
  cases q : H a with
  | none => rfl
  | some u => exact absurd (Nat.lt_of_lt_of_le (x.lt q) e) (Nat.lt_irrefl _)
theorem HOk.kept (x : HOk P w H h) (k : ∀ b u, h.get? b = some u → h'.get? b = some u) : HOk P w H h' := fun a o e =>
  (x a o e).stay (fun b u _ q => k b u q) (fun _ q => q) fun _ _ q => q
theorem HOk.laid (x : HOk P w H h) (k : ∀ b u, h.get? b = some u → h'.get? b = some u) (hp : h.objs.size ≤ a) (new : ObjOk P w (upd H a o) h' a o) : HOk P w (upd H a o) h' := fun b u e => by
  have hn := x.fresh hp
  by_cases hb : b = a
  · subst hb; rw [upd_same] at e; cases e; exact new
  · rw [upd_ne hb] at e
    exact (x b u e).stay (fun c v _ q => k c v q) (fun c q => by rw [upd_ne (ne_of_none q hn)]; exact q) fun c xs q => by rw [upd_ne (ne_of_none q hn)]; exact q
end
def Rd (H : Hp) (a : Addr) (u : HO) : Prop := H a = some u ∨ ∃ o, H a = some (.frz o u)
theorem Rd.of {H : Hp} {a : Addr} {u : HO} (h : H a = some u) : Rd H a u := .inl h
theorem Rd.ok {P : Program} {w : World} {H : Hp} {h : Heap} {a : Addr} {u : HO} (r : Rd H a u) (x : HOk P w H h) : ObjOk P w H h a u := by
  rcases r with r | ⟨o, r⟩
  · exact x a u r
  · obtain ⟨_, q⟩ := x a _ r
    exact q
def Mut : Option HO → Prop
  | some (.lst _) => True
  | some (.dK _) => True
  | some (.dT _) => True
  | some (.set _ _) => True
  | some (.ins _ _ _) => True
  | some (.ext _) => True
  | _ => False
section
variable {P : Program} {w : World} {H : Hp} {h h' : Heap} {x e : Addr} {o' : HO}
theorem HOk.write (ok : HOk P w H h) (mu : Mut (H x)) (he : e = x ∨ H e = some (.own x)) (k : ∀ b u, b ≠ e → h.get? b = some u → h'.get? b = some u) (heo : ∃ u, h'.get? e = some u)
    (new : ObjOk P w (upd H x o') h' x o') : HOk P w (upd H x o') h' := fun b u q => by
  have nown : ∀ c y, H c = some (.own y) → c ≠ x := fun c y r z => by subst z; rw [r] at mu; exact mu
  have ntup : ∀ c xs, H c = some (.tup xs) → c ≠ x := fun c xs r z => by subst z; rw [r] at mu; exact mu
  by_cases hb : b = x
  · subst hb; rw [upd_same] at q; cases q; exact new
  · rw [upd_ne hb] at q
    by_cases hbe : b = e
    · have q' : H b = some (.own x) := by
        rcases he with z | z
        · exact absurd (hbe.trans z) hb
        · rw [hbe]; exact z
      rw [q] at q'; cases q'
      obtain ⟨v, hv⟩ := heo
      exact ⟨v, by rw [hbe]; exact hv⟩
    · refine (ok b u q).stay (fun c v hc r => k c v ?_ r) (fun c r => by rw [upd_ne (nown c b r)]; exact r) fun c xs r => by rw [upd_ne (ntup c xs r)]; exact r
      rcases hc with rfl | hc
      · exact hbe
      · rintro rfl
        rcases he with z | z
        · exact nown c b hc z
        · rw [hc] at z; cases z; exact hb rfl
end
structure Un (fs ex : List Addr) (H H' : Hp) (h h' : Heap) : Prop where
  keep : ∀ b o, h.get? b = some o → H b = none → b ∉ fs → b ∉ ex → h'.get? b = some o
  slot : ∀ b o, h.get? b = some o → H b = none → b ∈ fs → b ∉ ex → ∃ sl, h'.get? b = some { o with slots := sl }
  free : ∀ b o, h.get? b = some o → H b = none → b ∉ ex → H' b = none
  there : ∀ b o, h.get? b = some o → b ∉ ex → ∃ o', h'.get? b = some o'
  tups : ∀ b xs, H b = some (.tup xs) → H' b = some (.tup xs)
  frzs : ∀ b o u, H b = some (.frz o u) → H' b = some (.frz o u)
  tbls : ∀ b ps, H b = some (.tbl ps) → ∃ more, H' b = some (.tbl (ps ++ more))
section
variable {fs fs' ex ex' : List Addr} {H H1 H2 : Hp} {h h1 h2 h' : Heap} {a x e : Addr} {o : HO}
theorem Un.any (u : Un fs ex H H1 h h1) {b : Addr} {ob : Obj} (q : h.get? b = some ob) (n : H b = none) (hx : b ∉ ex) : ∃ sl, h1.get? b = some { ob with slots := sl } := by
  by_cases hb : b ∈ fs
  · exact u.slot b ob q n hb hx
  · exact ⟨ob.slots, u.keep b ob q n hb hx⟩
theorem Un.trans (a : Un fs ex H H1 h h1) (b : Un fs ex H1 H2 h1 h2) : Un fs ex H H2 h h2 where
  keep := fun c ob q n hc hx => b.keep c ob (a.keep c ob q n hc hx) (a.free c ob q n hx) hc hx
  slot := fun c ob q n hc hx => by
    obtain ⟨sl, e1⟩ := a.slot c ob q n hc hx
    obtain ⟨sl', e2⟩ := b.slot c _ e1 (a.free c ob q n hx) hc hx
    exact ⟨sl', e2⟩
  free := fun c ob q n hx => by
    obtain ⟨o', e1⟩ := a.there c ob q hx
    exact b.free c o' e1 (a.free c ob q n hx) hx
  there := fun c ob q hx => by
    obtain ⟨o', e1⟩ := a.there c ob q hx
    exact b.there c o' e1 hx
  tups := fun c xs q => b.tups c xs (a.tups c xs q)
  frzs := fun c ob xs q => b.frzs c ob xs (a.frzs c ob xs q)
  tbls := fun c ps q => by
    obtain ⟨m1, e1⟩ := a.tbls c ps q
    obtain ⟨m2, e2⟩ := b.tbls c _ e1
    exact ⟨m1 ++ m2, by rw [e2, Array.append_assoc]⟩
theorem Un.kept (k : ∀ b u, h.get? b = some u → h'.get? b = some u) : Un fs ex H H h h' :=
  ⟨fun b ob q _ _ _ => k b ob q, fun b ob q _ _ _ => ⟨ob.slots, k b ob q⟩, fun _ _ _ n _ => n, fun b ob q _ => ⟨ob, k b ob q⟩, fun _ _ q => q, fun _ _ _ q => q, fun _ ps q => ⟨#[], by rw [q]; simp⟩⟩
theorem Un.refl : Un fs ex H H h h := Un.kept fun _ _ q => q
theorem Un.laid (k : ∀ b u, h.get? b = some u → h'.get? b = some u) (hp : h.objs.size ≤ a) (hn : H a = none) : Un fs ex H (upd H a o) h h' where
  keep := fun b u q _ _ _ => k b u q
  slot := fun b u q _ _ _ => ⟨u.slots, k b u q⟩
  free := fun b u q n _ => by rw [upd_ne (Nat.ne_of_lt (Nat.lt_of_lt_of_le (Heap.lt_size q) hp))]; exact n
  there := fun b u q _ => ⟨u, k b u q⟩
  tups := fun b xs q => by rw [upd_ne (ne_of_none q hn)]; exact q
  frzs := fun b u xs q => by rw [upd_ne (ne_of_none q hn)]; exact q
  tbls := fun b ps q => ⟨#[], by rw [upd_ne (ne_of_none q hn), q]; simp⟩
theorem Un.write (mu : Mut (H x)) (he : e = x ∨ H e = some (.own x)) (k : ∀ b u, b ≠ e → h.get? b = some u → h'.get? b = some u) (heo : ∃ u, h'.get? e = some u) : Un fs ex H (upd H x o) h h' := by
  have hx : ∀ b, H b = none → b ≠ x := fun b n z => by subst z; rw [n] at mu; exact mu
  have hb : ∀ b, H b = none → b ≠ e := fun b n z => by
    subst z
    rcases he with r | r
    · exact hx b n r
    · rw [n] at r; cases r
  have hm : ∀ b u, H b = some u → ¬ Mut (some u) → b ≠ x := fun b u q nm z => by subst z; rw [q] at mu; exact nm mu
  refine ⟨fun b u q n _ _ => k b u (hb b n) q, fun b u q n _ _ => ⟨u.slots, k b u (hb b n) q⟩, fun b u q n _ => by rw [upd_ne (hx b n)]; exact n, fun b u q _ => ?_,
    fun b xs q => by rw [upd_ne (hm b _ q fun z => z)]; exact q, fun b u xs q => by rw [upd_ne (hm b _ q fun z => z)]; exact q, fun b ps q => ⟨#[], by rw [upd_ne (hm b _ q fun z => z), q]; simp⟩⟩
  by_cases hbe : b = e
  · subst hbe; exact heo
  · exact ⟨u, k b u hbe q⟩
theorem Un.mono (u : Un fs ex H H1 h h1) (hs : ∀ b ∈ fs, b ∈ fs') (hx : ∀ b ∈ ex, b ∈ ex') : Un fs' ex' H H1 h h1 :=
  ⟨fun b ob q n hb he => u.keep b ob q n (fun z => hb (hs b z)) fun z => he (hx b z), fun _ _ q n _ he => u.any q n fun z => he (hx _ z), fun b ob q n he => u.free b ob q n fun z => he (hx b z), fun b ob q he => u.there b ob q fun z => he (hx b z), u.tups, u.frzs, u.tbls⟩
end
def trk (h : Heap) (H : Hp) : List Addr := (List.range h.objs.size).filter fun a => (H a).isSome
def hidT (h : Heap) (H : Hp) : Heap := PySem.W.hideAll h (trk h H)
theorem hidT_size (h : Heap) (H : Hp) : (hidT h H).objs.size = h.objs.size := PySem.W.hideAll_size _ _
theorem hidT_get {h : Heap} {H : Hp} {b : Addr} {o : Obj} (e : h.get? b = some o) (n : H b = none) : (hidT h H).get? b = some o :=
  PySem.W.hideAll_get _ e fun hm => by
    have q : (H b).isSome = true := (List.mem_filter.mp hm).2
    rw [n] at q; simp at q
theorem of_hidT {h : Heap} {H : Hp} {b : Addr} {o : Obj} (e : (hidT h H).get? b = some o) : h.get? b = some o ∧ H b = none := by
  have e' : h.get? b = some o := PySem.W.of_hideAll (trk h H) e
  refine ⟨e', ?_⟩
  cases q : H b with
  | none => rfl
  | some x =>
    have hm : b ∈ trk h H := List.mem_filter.mpr ⟨List.mem_range.mpr (Heap.lt_size e'), by simp [q]⟩
    have z : (hidT h H).get? b = none := PySem.W.hideAll_none (trk h H) hm
    rw [z] at e; cases e
def allNews (g h : Heap) (L : Addr) : List (Addr × Obj) := (List.range h.objs.size).filterMap fun a => if a = L ∨ (g.get? a).isSome = true then none else (h.get? a).map fun o => (a, o)
def rest (g h : Heap) (L d : Addr) : List (Addr × Obj) := (allNews g h L).filter fun p => decide (p.1 ≠ d)
end L2
namespace L2
open PySem PySem.Spec PyProof.Rows
structure Mod (K : PySem.W.Frag) (mg : Str → Option Value) (base : Heap) : Prop where
  kin : K.In base
  glob : base.Ns mainGlobals mg
  blt : ∃ mb, base.Ns builtinsNs mb ∧ ∀ x : Str, x ≠ "__name__" → mb x = bootBuiltins x
  nolimit : base.NoLimit
structure Cx where
  prog : Program
  w : World
  K : PySem.W.Frag
  mg : Str → Option Value
  base : Heap
  A : Around
  N : List Str
  s₀ : Shared
  H₀ : Hp
  env : Env
  outer : List Env
  stack : List Env
  ex : List Addr
  fn : Str → Bool
  calm : Bool
  pn : List (Addr × Obj)
  xe : Value → Shared → Prop
def frs (l : List Env) : List Addr := l.filterMap (·.frame)
abbrev Cx.fs (X : Cx) : List Addr := frs X.outer
def Vis (sc : Scope) (x : Str) : Prop := sc.names.lookup x = some .local ∨ sc.names.lookup x = some .cell ∨ sc.names.lookup x = some .free
def Loc (sc : Scope) (x : Str) : Prop := sc.names.lookup x = some .local ∨ sc.names.lookup x = some .cell
def Look (env : Env) (h : Heap) (m : Str → Option Value) (x : Str) (u : Value) : Prop :=
  (env.kindOf x = some .local ∧ m x = some u) ∨ ((env.kindOf x = some .cell ∨ env.kindOf x = some .free) ∧ ∃ c, env.cells.lookup x = some c ∧ h.IsCell c (some u))
structure Cx.Ok (X : Cx) : Prop where
  mod : Mod X.K X.mg X.base
  kind : X.env.scope.kind = .function
  glob : X.env.globals = mainGlobals
  blt : X.env.builtins = builtinsNs
  above : X.s₀.heap.objs.size ≤ X.env.locals
  inj : ∀ x y c, X.env.cells.lookup x = some c → X.env.cells.lookup y = some c → x = y
  has : ∀ x, (X.env.kindOf x = some .cell ∨ X.env.kindOf x = some .free) → ∃ c, X.env.cells.lookup x = some c
  cab : ∀ x c, X.fn x = true → X.env.cells.lookup x = some c → X.s₀.heap.objs.size ≤ c
  hd : X.calm = true → X.A.handled = none
  frames : X.A.frames = some X.stack
  stk : X.stack = X.outer ∨ (X.stack = X.env :: X.outer ∧ X.env.frame = some X.env.locals)
  exf : ∀ b ∈ X.ex, b ≠ X.env.locals ∧ ∀ x c, X.env.cells.lookup x = some c → c ≠ b
  bs : ∀ b o, X.base.get? b = some o → X.s₀.heap.get? b = some o ∧ X.H₀ b = none
  bsz : X.base.objs.size ≤ X.s₀.heap.objs.size
  noex : ∀ b o, X.base.get? b = some o → b ∉ X.ex
  exfs : ∀ b ∈ X.ex, b ∉ X.fs
  funs : X.s₀.heap.FunFrames X.base X.outer
  frf : ∀ b ∈ X.fs, X.H₀ b = none
structure Inv (X : Cx) (pins : List (Addr × Obj)) (σ : List (Option V)) (H : Hp) (s : Shared) : Prop where
  ok : X.Ok
  os : s.os = X.s₀.os
  bare : AllBare s.gens
  base : Un X.fs X.ex X.H₀ H X.s₀.heap s.heap
  loc : ∃ m, s.heap.Ns X.env.locals m ∧ ∀ (i : Nat) (x : Str) (v : V), X.N[i]? = some x → σ[i]? = some (some v) → Vis X.env.scope x → ∃ u, RelV v u ∧ Look X.env s.heap m x u
  cell : ∀ x c, X.env.cells.lookup x = some c → ∃ v, s.heap.IsCell c v
  free : H X.env.locals = none
  freeC : ∀ x c, X.env.cells.lookup x = some c → H c = none
  pin : ∀ p ∈ X.pn ++ pins, s.heap.get? p.1 = some p.2 ∧ H p.1 = none ∧ p.1 ≠ X.env.locals ∧ p.1 ∉ X.fs ∧ ∀ v, p.2.data ≠ .cell v
  hok : HOk X.prog X.w H s.heap
  len : σ.length = X.N.length
section
variable {X : Cx} {pins : List (Addr × Obj)} {σ : List (Option V)} {H H' : Hp} {s : Shared} {h' : Heap}
theorem Cx.Ok.nofr (ok : X.Ok) {b : Addr} {o : Obj} (e : X.base.get? b = some o) : b ∉ X.fs := fun hb => by
  have := (ok.funs.mem hb).1
  rw [e] at this; cases this
theorem Inv.bs (I : Inv X pins σ H s) : ∀ b o, X.base.get? b = some o → s.heap.get? b = some o ∧ H b = none := fun b o e =>
  ⟨I.base.keep b o (I.ok.bs b o e).1 (I.ok.bs b o e).2 (I.ok.nofr e) (I.ok.noex b o e), I.base.free b o (I.ok.bs b o e).1 (I.ok.bs b o e).2 (I.ok.noex b o e)⟩
theorem Inv.bk (I : Inv X pins σ H s) : ∀ b o, X.base.get? b = some o → s.heap.get? b = some o := fun b o e => (I.bs b o e).1
theorem Inv.mod (I : Inv X pins σ H s) : Mod X.K X.mg X.base := I.ok.mod
theorem Inv.kIn (I : Inv X pins σ H s) : X.K.In s.heap := I.ok.mod.kin.keeps I.bk
theorem Inv.nolimit (I : Inv X pins σ H s) : s.heap.NoLimit := I.ok.mod.nolimit.keeps I.bk
theorem Inv.fr (I : Inv X pins σ H s) : ∃ m, Fr X.base X.env.locals s.heap m :=
  let ⟨m, hn, _⟩ := I.loc
  ⟨m, hn, I.bk, Nat.le_trans I.ok.bsz I.ok.above⟩
theorem Inv.lt (I : Inv X pins σ H s) : X.env.locals < s.heap.objs.size := let ⟨_, hn, _⟩ := I.loc; hn.lt
theorem Inv.sz (I : Inv X pins σ H s) : X.s₀.heap.objs.size ≤ s.heap.objs.size := Nat.le_trans I.ok.above (Nat.le_of_lt I.lt)
theorem Inv.nofs (I : Inv X pins σ H s) {a : Addr} (h : s.heap.objs.size ≤ a) : a ∉ X.fs := fun hb => by
  obtain ⟨_, o, ho, _⟩ := I.ok.funs.mem hb
  exact absurd (Nat.lt_of_lt_of_le (Heap.lt_size ho) (Nat.le_trans I.sz h)) (Nat.lt_irrefl _)
theorem Inv.cne (I : Inv X pins σ H s) : ∀ x c, X.env.cells.lookup x = some c → c ≠ X.env.locals := fun x c e z => by
  obtain ⟨v, o, ho, hd⟩ := I.cell x c e
  obtain ⟨m, ⟨o', es, ep, ho', hd', _⟩, _⟩ := I.loc
  rw [z, ho'] at ho; cases ho; rw [hd'] at hd; cases hd
theorem Inv.funs (I : Inv X pins σ H s) : s.heap.FunFrames X.base X.outer := by
  have all : ∀ (l : List Env), (∀ b ∈ frs l, b ∈ X.fs) → X.s₀.heap.FunFrames X.base l → s.heap.FunFrames X.base l := by
    intro l
    induction l with
    | nil => intro _ _; trivial
    | cons env r ih =>
      intro hs hl
      obtain ⟨hk, ⟨L, o, hf, hn, ho, hd⟩, hr⟩ := hl
      have hL : L ∈ X.fs := hs L (by unfold frs; rw [List.filterMap_cons, hf]; exact List.mem_cons_self)
      obtain ⟨sl, e⟩ := I.base.slot L o ho (I.ok.frf L hL) hL fun z => I.ok.exfs L z hL
      exact ⟨hk, ⟨L, _, hf, hn, e, hd⟩, ih (fun b hb => hs b (by unfold frs; rw [List.filterMap_cons, hf]; exact List.mem_cons_of_mem _ hb)) hr⟩
  exact all X.outer (fun _ hb => hb) I.ok.funs
theorem Inv.stack (I : Inv X pins σ H s) : s.heap.FunFrames X.base X.stack := by
  rcases I.ok.stk with e | ⟨e, hf⟩
  · rw [e]; exact I.funs
  · rw [e]
    obtain ⟨m, hn, _⟩ := I.loc
    refine .cons (by rw [I.ok.kind]; decide) hf hn ?_ I.funs
    exact Heap.get?_none_of_le (Nat.le_trans I.ok.bsz I.ok.above)
theorem Inv.stkSub (I : Inv X pins σ H s) : ∀ b ∈ frs X.stack, b ∈ X.env.locals :: X.fs := fun b hb => by
  rcases I.ok.stk with e | ⟨e, hf⟩
  · rw [e] at hb; exact List.mem_cons_of_mem _ hb
  · rw [e] at hb
    unfold frs at hb
    rw [List.filterMap_cons, hf] at hb
    exact hb
theorem Inv.stkFree (I : Inv X pins σ H s) : ∀ b ∈ frs X.stack, H b = none := fun b hb => by
  rcases List.mem_cons.mp (I.stkSub b hb) with e | hb
  · rw [e]; exact I.free
  · obtain ⟨_, o, ho, _⟩ := I.ok.funs.mem hb
    exact I.base.free b o ho (I.ok.frf b hb) fun z => I.ok.exfs b z hb
theorem Inv.step {g' : Array GenState} {t' : Nat} {d' : Drawn} {ch : List Addr} (I : Inv X pins σ H s)
    (hch : ∀ b ∈ ch, (b ∈ X.ex ∨ X.s₀.heap.objs.size ≤ b) ∧ b ≠ X.env.locals ∧ (∀ x c, X.env.cells.lookup x = some c → c ≠ b) ∧ ∀ p ∈ X.pn ++ pins, p.1 ≠ b)
    (keep : ∀ b o, b ≠ X.env.locals → b ∉ X.fs → b ∉ ch → s.heap.get? b = some o → H b = none → h'.get? b = some o)
    (slot : ∀ b o, b ≠ X.env.locals → b ∈ X.fs → b ∉ ch → s.heap.get? b = some o → H b = none → ∃ sl, h'.get? b = some { o with slots := sl }) (free : ∀ b o, b ∉ ch → s.heap.get? b = some o → H b = none → H' b = none)
    (there : ∀ b o, b ∉ ch → s.heap.get? b = some o → ∃ o', h'.get? b = some o')
    (tups : ∀ b xs, H b = some (.tup xs) → H' b = some (.tup xs)) (frzs : ∀ b o u, H b = some (.frz o u) → H' b = some (.frz o u)) (tbls : ∀ b ps, H b = some (.tbl ps) → ∃ more, H' b = some (.tbl (ps ++ more)))
    (ns : ∀ m, s.heap.Ns X.env.locals m → h'.Ns X.env.locals m) (hok : HOk X.prog X.w H' h') (hg : AllBare g') :
    Inv X pins σ H' { s with heap := h', gens := g', drawn := d', toks := t' } := by
  have neL : ∀ b o, X.s₀.heap.get? b = some o → b ≠ X.env.locals := fun b o e => Nat.ne_of_lt (Nat.lt_of_lt_of_le (Heap.lt_size e) I.ok.above)
  have neC : ∀ b o, X.s₀.heap.get? b = some o → b ∉ X.ex → b ∉ ch := fun b o e hx hb => by
    rcases (hch b hb).1 with z | z
    · exact hx z
    · exact absurd (Nat.lt_of_lt_of_le (Heap.lt_size e) z) (Nat.lt_irrefl _)
  have cellK : ∀ x c, X.env.cells.lookup x = some c → ∀ v, s.heap.IsCell c v → h'.IsCell c v := fun x c e v ⟨o, ho, hd⟩ => by
    have nch : c ∉ ch := fun z => (hch c z).2.2.1 x c e rfl
    by_cases hc : c ∈ X.fs
    · obtain ⟨sl, q⟩ := slot c o (I.cne x c e) hc nch ho (I.freeC x c e)
      exact ⟨_, q, hd⟩
    · exact ⟨o, keep c o (I.cne x c e) hc nch ho (I.freeC x c e), hd⟩
  refine ⟨I.ok, I.os, hg, ⟨fun b o e n hb hx => ?_, fun b o e n hb hx => ?_, fun b o e n hx => ?_, fun b o e hx => ?_, fun b xs e => tups b xs (I.base.tups b xs e), fun b o xs e => frzs b o xs (I.base.frzs b o xs e), fun b ps e => ?_⟩, ?_, fun x c e => ?_, ?_, fun x c e => ?_, fun p hp => ?_, hok, I.len⟩
  · exact keep b o (neL b o e) hb (neC b o e hx) (I.base.keep b o e n hb hx) (I.base.free b o e n hx)
  · obtain ⟨sl, e1⟩ := I.base.slot b o e n hb hx
    obtain ⟨sl', e2⟩ := slot b _ (neL b o e) hb (neC b o e hx) e1 (I.base.free b o e n hx)
    exact ⟨sl', e2⟩
  · obtain ⟨o', e1⟩ := I.base.there b o e hx
    exact free b o' (neC b o e hx) e1 (I.base.free b o e n hx)
  · obtain ⟨o', e1⟩ := I.base.there b o e hx
    exact there b o' (neC b o e hx) e1
  · obtain ⟨m1, e1⟩ := I.base.tbls b ps e
    obtain ⟨m2, e2⟩ := tbls b _ e1
    exact ⟨m1 ++ m2, by rw [e2, Array.append_assoc]⟩
  · obtain ⟨m, hn, hl⟩ := I.loc
    refine ⟨m, ns m hn, fun i x v e1 e2 e3 => ?_⟩
    obtain ⟨u, r, l⟩ := hl i x v e1 e2 e3
    refine ⟨u, r, ?_⟩
    rcases l with l | ⟨k, c, e, z⟩
    · exact .inl l
    · exact .inr ⟨k, c, e, cellK x c e _ z⟩
  · obtain ⟨v, z⟩ := I.cell x c e
    exact ⟨v, cellK x c e v z⟩
  · obtain ⟨m, ⟨o, _, _, ho, _⟩, _⟩ := I.loc
    exact free _ o (fun z => (hch _ z).2.1 rfl) ho I.free
  · obtain ⟨v, o, ho, hd⟩ := I.cell x c e
    exact free c o (fun z => (hch c z).2.2.1 x c e rfl) ho (I.freeC x c e)
  · obtain ⟨e, n, ne, nf, d⟩ := I.pin p hp
    have nch : p.1 ∉ ch := fun z => (hch p.1 z).2.2.2 p hp rfl
    exact ⟨keep p.1 p.2 ne nf nch e n, free p.1 p.2 nch e n, ne, nf, d⟩
theorem Inv.un {t' : Nat} (I : Inv X pins σ H s) (u : Un X.fs [] H H' s.heap h') (hok : HOk X.prog X.w H' h') : Inv X pins σ H' { s with heap := h', toks := t' } := by
  obtain ⟨m, ⟨o, es, ep, ho, r⟩, _⟩ := id I.loc
  obtain ⟨sl, hL⟩ := u.any ho I.free (by simp)
  exact I.step (g' := s.gens) (d' := s.drawn) (ch := []) (fun _ z => nomatch z) (fun b o _ hb _ e n => u.keep b o e n hb (by simp)) (fun b o _ hb _ e n => u.slot b o e n hb (by simp)) (fun b o _ e n => u.free b o e n (by simp)) (fun b o _ e => u.there b o e (by simp)) u.tups u.frzs u.tbls (fun m' hm => by
    obtain ⟨o', es', ep', ho', r'⟩ := hm
    rw [ho] at ho'; cases ho'
    exact ⟨_, es', ep', hL, r'⟩) hok I.bare
theorem Inv.call {g' : Array GenState} {t' : Nat} {d' : Drawn} {ch : List Addr} (I : Inv X pins σ H s) (u : Un (frs X.stack) ch H H' s.heap h') (hok : HOk X.prog X.w H' h') (hg : AllBare g')
    (hch : ∀ b ∈ ch, (b ∈ X.ex ∨ X.s₀.heap.objs.size ≤ b) ∧ b ≠ X.env.locals ∧ (∀ x c, X.env.cells.lookup x = some c → c ≠ b) ∧ ∀ p ∈ X.pn ++ pins, p.1 ≠ b) :
    Inv X pins σ H' { s with heap := h', gens := g', drawn := d', toks := t' } := by
  obtain ⟨m, ⟨o, es, ep, ho, r⟩, _⟩ := id I.loc
  obtain ⟨sl, hL⟩ := u.any ho I.free fun z => (hch _ z).2.1 rfl
  exact I.step (ch := ch) hch (fun b o hL hb hc e n => u.keep b o e n (fun z => (List.mem_cons.mp (I.stkSub b z)).elim hL hb) hc) (fun b o _ _ hc e n => u.any e n hc) (fun b o hc e n => u.free b o e n hc) (fun b o hc e => u.there b o e hc) u.tups u.frzs u.tbls (fun m' hm => by
    obtain ⟨o', es', ep', ho', r'⟩ := hm
    rw [ho] at ho'; cases ho'
    exact ⟨_, es', ep', hL, r'⟩) hok hg
theorem Inv.turned {t' : Nat} {it : Addr} (I : Inv X pins σ H s) (k : ∀ b o, b ≠ it → s.heap.get? b = some o → h'.get? b = some o) (hn : H it = none) (hL : it ≠ X.env.locals)
    (h1 : it ∈ X.ex ∨ X.s₀.heap.objs.size ≤ it) (h2 : ∀ x c, X.env.cells.lookup x = some c → c ≠ it) (h3 : ∀ p ∈ X.pn ++ pins, p.1 ≠ it) : Inv X pins σ H { s with heap := h', toks := t' } := by
  have nit : ∀ b u, H b = some u → b ≠ it := fun b u e z => by rw [z, hn] at e; cases e
  refine I.step (g' := s.gens) (d' := s.drawn) (ch := [it]) (fun b hb => ?_) (fun b o _ _ hc e _ => k b o (fun z => hc (by simp [z])) e) (fun b o _ _ hc e _ => ⟨o.slots, k b o (fun z => hc (by simp [z])) e⟩) (fun _ _ _ _ n => n)
    (fun b o hc e => ⟨o, k b o (fun z => hc (by simp [z])) e⟩) (fun _ _ e => e) (fun _ _ _ e => e) (fun b ps e => ⟨#[], by rw [e]; simp⟩) (fun m hm => ?_) (fun b u e => ?_) I.bare
  · have e : b = it := by simpa using hb
    subst e
    exact ⟨h1, hL, h2, h3⟩
  · obtain ⟨o, es, ep, ho, r⟩ := hm
    exact ⟨o, es, ep, k _ o (Ne.symm hL) ho, r⟩
  · refine (I.hok b u e).stay (fun c v hc q => k c v ?_ q) (fun _ q => q) fun _ _ q => q
    rcases hc with z | z
    · rw [z]; exact nit b u e
    · exact nit c _ z
theorem Inv.tok (I : Inv X pins σ H s) (t : Nat) : Inv X pins σ H { s with toks := t } := I.un (h' := s.heap) (t' := t) Un.refl I.hok
theorem Inv.kept {t' : Nat} (I : Inv X pins σ H s) (k : ∀ b u, s.heap.get? b = some u → h'.get? b = some u) : Inv X pins σ H { s with heap := h', toks := t' } := I.un (Un.kept k) (I.hok.kept k)
theorem Inv.laid {a : Addr} {o : HO} {t' : Nat} (I : Inv X pins σ H s) (k : ∀ b u, s.heap.get? b = some u → h'.get? b = some u) (hp : s.heap.objs.size ≤ a) (new : ObjOk X.prog X.w (upd H a o) h' a o) :
    Inv X pins σ (upd H a o) { s with heap := h', toks := t' } := I.un (Un.laid k hp (I.hok.fresh hp)) (I.hok.laid k hp new)
theorem Inv.write {x e : Addr} {o : HO} {t' : Nat} (I : Inv X pins σ H s) (mu : Mut (H x)) (he : e = x ∨ H e = some (.own x)) (k : ∀ b u, b ≠ e → s.heap.get? b = some u → h'.get? b = some u) (heo : ∃ u, h'.get? e = some u)
    (new : ObjOk X.prog X.w (upd H x o) h' x o) : Inv X pins σ (upd H x o) { s with heap := h', toks := t' } := I.un (Un.write mu he k heo) (I.hok.write mu he k heo new)
theorem Inv.pins_of {pins' : List (Addr × Obj)} (I : Inv X pins σ H s) (h : ∀ p ∈ pins', s.heap.get? p.1 = some p.2 ∧ H p.1 = none ∧ p.1 ≠ X.env.locals ∧ p.1 ∉ X.fs ∧ ∀ v, p.2.data ≠ .cell v) : Inv X pins' σ H s :=
  ⟨I.ok, I.os, I.bare, I.base, I.loc, I.cell, I.free, I.freeC, fun p hp => (List.mem_append.mp hp).elim (fun z => I.pin p (List.mem_append_left _ z)) (h p), I.hok, I.len⟩
theorem nodup_ix {N : List Str} (hN : N.Nodup) {i j : Nat} {x : Str} (a : N[i]? = some x) (b : N[j]? = some x) : i = j := by
  obtain ⟨h1, e1⟩ := List.getElem?_eq_some_iff.mp a
  obtain ⟨h2, e2⟩ := List.getElem?_eq_some_iff.mp b
  exact (List.getElem_inj hN).mp (e1.trans e2.symm)
theorem store_ok2 {M : Model} {A : Around} {E : Value → Shared → Prop} {i : Nat} {x : Str} {v : V} {u : Value} {Q : Unit → Shared → Prop} (I : Inv X pins σ H s) (hN : X.N.Nodup) (hi : X.N[i]? = some x) (hx : Loc X.env.scope x) (r : RelV v u)
    (h : ∀ s', Inv X pins (σ.set i (some v)) H s' → (∃ a, Heap.SameBut a s.heap s'.heap ∧ (a = X.env.locals ∨ X.env.cells.lookup x = some a)) → Q () s') (hf : X.fn x = true ∨ X.env.scope.names.lookup x = some .local := by first | exact .inl rfl | exact .inr rfl | assumption) : wpAny M A (storeName X.env x u) Q E s := by
  obtain ⟨m, hn, hl⟩ := id I.loc
  have hcls : (X.env.scope.kind == .class || (X.env.scope.kind == .module && X.env.locals != X.env.globals)) = false := by rw [I.ok.kind]; rfl
  have hiσ : i < σ.length := by rw [I.len]; exact (List.getElem?_eq_some_iff.mp hi).1
  have cne := I.cne
  have tracked : ∀ {a : Addr} {h' : Heap}, (∃ o, s.heap.get? a = some o ∧ H a = none) → Heap.SameBut a s.heap h' → HOk X.prog X.w H h' := fun {a h'} ha hs b ob e => by
    obtain ⟨_, _, hfree⟩ := ha
    refine (I.hok b ob e).stay (fun c w' hc q => (hs.2 c ?_).trans q) (fun _ q => q) fun _ _ q => q
    rintro rfl
    rcases hc with rfl | hc
    · rw [hfree] at e; cases e
    · rw [hfree] at hc; cases hc
  rcases hx with hk | hk
  · refine wpAny_storeName_local hk hn (fun h' hn' hs => ?_) hcls
    obtain ⟨oL, _, _, hoL, _⟩ := id hn
    refine h _ ⟨I.ok, I.os, I.bare, ⟨fun b o e n hb hx => ?_, fun b o e n hb hx => ?_, I.base.free, fun b o e hx => ?_, I.base.tups, I.base.frzs, I.base.tbls⟩, ⟨_, hn', fun j y v' e1 e2 e3 => ?_⟩, fun y c e => ?_, I.free, I.freeC, fun p hp => ?_, tracked ⟨oL, hoL, I.free⟩ hs, by simpa using I.len⟩ ⟨_, hs, .inl rfl⟩
    · exact (hs.2 b (Nat.ne_of_lt (Nat.lt_of_lt_of_le (Heap.lt_size e) I.ok.above))).trans (I.base.keep b o e n hb hx)
    · obtain ⟨sl, e1⟩ := I.base.slot b o e n hb hx
      exact ⟨sl, (hs.2 b (Nat.ne_of_lt (Nat.lt_of_lt_of_le (Heap.lt_size e) I.ok.above))).trans e1⟩
    · obtain ⟨o', e1⟩ := I.base.there b o e hx
      exact ⟨o', (hs.2 b (Nat.ne_of_lt (Nat.lt_of_lt_of_le (Heap.lt_size e) I.ok.above))).trans e1⟩
    · by_cases hj : j = i
      · subst hj
        rw [hi] at e1; cases e1
        rw [List.getElem?_set_self hiσ] at e2
        cases e2
        exact ⟨u, r, .inl ⟨hk, by simp⟩⟩
      · rw [List.getElem?_set_ne (Ne.symm hj)] at e2
        obtain ⟨u', r', q⟩ := hl j y v' e1 e2 e3
        refine ⟨u', r', ?_⟩
        rcases q with ⟨k, e⟩ | ⟨k, c, e, z⟩
        · refine .inl ⟨k, ?_⟩
          have : y ≠ x := fun e => hj (nodup_ix hN e1 (e ▸ hi))
          simp [this, e]
        · exact .inr ⟨k, c, e, z.sameBut hs (cne y c e)⟩
    · obtain ⟨w', z⟩ := I.cell y c e
      exact ⟨w', z.sameBut hs (cne y c e)⟩
    · obtain ⟨e, n, ne, nf, d⟩ := I.pin p hp
      exact ⟨(hs.2 p.1 ne).trans e, n, ne, nf, d⟩
  · have hfn : X.fn x = true := by
      rcases hf with z | z
      · exact z
      · rw [z] at hk; cases hk
    obtain ⟨c, hc⟩ := I.ok.has x (.inl hk)
    obtain ⟨w', z⟩ := I.cell x c hc
    refine wpAny_storeName_cell I.ok.kind hk hc z (fun h' hc' hs => ?_)
    obtain ⟨oc, hoc, hocd⟩ := id z
    refine h { s with heap := h' } ⟨I.ok, I.os, I.bare, ⟨fun b o e n hb hx => ?_, fun b o e n hb hx => ?_, I.base.free, fun b o e hx => ?_, I.base.tups, I.base.frzs, I.base.tbls⟩, ⟨m, hn.sameBut hs (Ne.symm (cne x c hc)), fun j y v' e1 e2 e3 => ?_⟩, fun y c' e => ?_, I.free, I.freeC, fun p hp => ?_, tracked ⟨oc, hoc, I.freeC x c hc⟩ hs, by simpa using I.len⟩ ⟨c, hs, .inr hc⟩
    · exact (hs.2 b (Nat.ne_of_lt (Nat.lt_of_lt_of_le (Heap.lt_size e) (I.ok.cab x c hfn hc)))).trans (I.base.keep b o e n hb hx)
    · obtain ⟨sl, e1⟩ := I.base.slot b o e n hb hx
      exact ⟨sl, (hs.2 b (Nat.ne_of_lt (Nat.lt_of_lt_of_le (Heap.lt_size e) (I.ok.cab x c hfn hc)))).trans e1⟩
    · obtain ⟨o', e1⟩ := I.base.there b o e hx
      exact ⟨o', (hs.2 b (Nat.ne_of_lt (Nat.lt_of_lt_of_le (Heap.lt_size e) (I.ok.cab x c hfn hc)))).trans e1⟩
    · by_cases hj : j = i
      · subst hj
        rw [hi] at e1; cases e1
        rw [List.getElem?_set_self hiσ] at e2
        cases e2
        exact ⟨u, r, .inr ⟨.inl hk, c, hc, hc'⟩⟩
      · rw [List.getElem?_set_ne (Ne.symm hj)] at e2
        obtain ⟨u', r', q⟩ := hl j y v' e1 e2 e3
        refine ⟨u', r', ?_⟩
        rcases q with q | ⟨k, c', e, z'⟩
        · exact .inl q
        · refine .inr ⟨k, c', e, z'.sameBut hs ?_⟩
          rintro rfl
          exact hj (nodup_ix hN e1 (I.ok.inj _ _ _ e hc ▸ hi))
    · by_cases hcc : c' = c
      · subst hcc; exact ⟨_, hc'⟩
      · obtain ⟨w2, z2⟩ := I.cell y c' e
        exact ⟨w2, z2.sameBut hs hcc⟩
    · obtain ⟨e, n, ne, nf, d⟩ := I.pin p hp
      refine ⟨(hs.2 p.1 ?_).trans e, n, ne, nf, d⟩
      intro q
      rw [q, hoc] at e
      have q' : oc = p.2 := Option.some.inj e
      exact d w' (by rw [← q']; exact hocd)
theorem store_ok {M : Model} {A : Around} {E : Value → Shared → Prop} {i : Nat} {x : Str} {v : V} {u : Value} {Q : Unit → Shared → Prop} (I : Inv X pins σ H s) (hN : X.N.Nodup) (hi : X.N[i]? = some x) (hx : Loc X.env.scope x) (r : RelV v u)
    (h : ∀ s', Inv X pins (σ.set i (some v)) H s' → Q () s') (hf : X.fn x = true ∨ X.env.scope.names.lookup x = some .local := by first | exact .inl rfl | exact .inr rfl | assumption) : wpAny M A (storeName X.env x u) Q E s :=
  store_ok2 I hN hi hx r (fun s' I' _ => h s' I') hf
theorem Inv.call' {s' : Shared} {ch : List Addr} (I : Inv X pins σ H s) (ho : s'.os = s.os) (u : Un (frs X.stack) ch H H' s.heap s'.heap) (hok : HOk X.prog X.w H' s'.heap) (hg : AllBare s'.gens)
    (hch : ∀ b ∈ ch, (b ∈ X.ex ∨ X.s₀.heap.objs.size ≤ b) ∧ b ≠ X.env.locals ∧ (∀ x c, X.env.cells.lookup x = some c → c ≠ b) ∧ ∀ p ∈ X.pn ++ pins, p.1 ≠ b) : Inv X pins σ H' s' := by
  obtain ⟨h', g', d', t', o'⟩ := s'
  have e : o' = s.os := ho
  subst e
  exact I.call (g' := g') (t' := t') (d' := d') u hok hg hch
end
abbrev XK := Value → Option Addr → Hp → Prop
abbrev St := List (Option V)
abbrev VK := V → Hp → Prop
abbrev TE := St → Hp → VK → Prop
abbrev TT := St → Hp → (Bool → Hp → Prop) → Prop
abbrev TA := St → Hp → (List V → Hp → Prop) → Prop
structure Ends where
  nx : St → Hp → Prop
  rt : VK
  bk : St → Hp → Prop := fun _ _ => False
  ct : St → Hp → Prop := fun _ _ => False
abbrev TS := Ends → St → Hp → Prop
def EP (X : Cx) (pins : List (Addr × Obj)) (σ : St) (Q : VK) (u : Value) (s' : Shared) : Prop := ∃ v H', Inv X pins σ H' s' ∧ RelV v u ∧ Q v H'
def TP (X : Cx) (pins : List (Addr × Obj)) (σ : St) (Q : Bool → Hp → Prop) (b : Bool) (s' : Shared) : Prop := ∃ H', Inv X pins σ H' s' ∧ Q b H'
def AP (X : Cx) (pins : List (Addr × Obj)) (σ : St) (Q : List V → Hp → Prop) (us : List Value) (s' : Shared) : Prop := ∃ vs H', Inv X pins σ H' s' ∧ Vals vs us ∧ Q vs H'
def SP (X : Cx) (pins : List (Addr × Obj)) (D : Ends) (f : Flow) (s' : Shared) : Prop :=
  match f with
  | .next => ∃ σ' H', Inv X pins σ' H' s' ∧ D.nx σ' H'
  | .brk => ∃ σ' H', Inv X pins σ' H' s' ∧ D.bk σ' H'
  | .cont => ∃ σ' H', Inv X pins σ' H' s' ∧ D.ct σ' H'
  | .ret u => ∃ v σ' H', Inv X pins σ' H' s' ∧ RelV v u ∧ D.rt v H'
def PE (X : Cx) (e : Expr) (t : TE) : Prop :=
  ∀ (pins : List (Addr × Obj)) (s : Shared) (σ : St) (H : Hp) (Q : VK), Inv X pins σ H s → t σ H Q → wpAny (model X.prog X.w) X.A (eval e X.env) (EP X pins σ Q) X.xe s
def PT (X : Cx) (e : Expr) (t : TT) : Prop :=
  ∀ (pins : List (Addr × Obj)) (s : Shared) (σ : St) (H : Hp) (Q : Bool → Hp → Prop), Inv X pins σ H s → t σ H Q → wpAny (model X.prog X.w) X.A (isTrue e X.env (eval e X.env)) (TP X pins σ Q) X.xe s
def PW (X : Cx) (e : Expr) (t : TT) : Prop :=
  ∀ (whole : Sem Value) (pins : List (Addr × Obj)) (s : Shared) (σ : St) (H : Hp) (Q : Bool → Hp → Prop), Inv X pins σ H s → t σ H Q → wpAny (model X.prog X.w) X.A (isTrue e X.env whole) (TP X pins σ Q) X.xe s
theorem PW.pt {X : Cx} {e : Expr} {t : TT} (h : PW X e t) : PT X e t := h _
def PA (X : Cx) (es : List Expr) (t : TA) : Prop :=
  ∀ (pos : Pos) (pins : List (Addr × Obj)) (s : Shared) (σ : St) (H : Hp) (Q : List V → Hp → Prop), Inv X pins σ H s → t σ H Q → wpAny (model X.prog X.w) X.A (spliced (backTo pos (starEach es X.env))) (AP X pins σ Q) X.xe s
def PS (X : Cx) (st : Stmt) (t : TS) : Prop :=
  ∀ (pins : List (Addr × Obj)) (s : Shared) (σ : St) (H : Hp) (D : Ends), Inv X pins σ H s → t D σ H → wpAny (model X.prog X.w) X.A (exec st X.env) (SP X pins D) X.xe s
def PSs (X : Cx) (st : List Stmt) (t : TS) : Prop :=
  ∀ (pins : List (Addr × Obj)) (s : Shared) (σ : St) (H : Hp) (D : Ends), Inv X pins σ H s → t D σ H → wpAny (model X.prog X.w) X.A (execs st X.env) (SP X pins D) X.xe s
theorem thn {α : Type} {t : Sem α} {Q Q' : α → Shared → Prop} {M : Model} {A : Around} {E : Value → Shared → Prop} {s : Shared} (h : wpAny M A t Q E s) (hQ : ∀ a s, Q a s → Q' a s) : wpAny M A t Q' E s := wpAny_mono h hQ fun _ _ x => x
end L2
namespace L2
open PySem PySem.Spec PyProof.Rows
section
variable {X : Cx}
def tVar (i : Nat) : TE := fun σ H Q => ∃ v, σ[i]? = some (some v) ∧ Q v H
def tC (v : V) : TE := fun _ H Q => Q v H
theorem pe_var {i : Nat} {x : Str} {pos : Pos} (hN : X.N[i]? = some x) (hv : Vis X.env.scope x) (hd : (x == ("__debug__" : Str)) = false := by decide) (hcd : (x == ("__classdict__" : Str)) = false := by decide) : PE X (.Name x pos) (tVar i) := by
  intro pins s σ H Q I h
  obtain ⟨v, e, h⟩ := h
  obtain ⟨m, hn, hl⟩ := I.loc
  obtain ⟨u, r, l⟩ := hl i x v hN e hv
  have fin : EP X pins σ Q u s := ⟨v, H, I, r, h⟩
  rcases l with ⟨hk, hm⟩ | ⟨hk, c, hc, hcell⟩
  · exact wpAny_Name (wpAny_loadName_local I.ok.kind hk hn hm fin) hd
  · rcases hk with hk | hk
    · exact wpAny_Name (wpAny_loadName_cell I.ok.kind hk hc hcell fin) hd
    · exact wpAny_Name (wpAny_loadName_free I.ok.kind hk hc hcell fin hcd) hd
theorem pe_int {i j pos} : PE X (.Constant (.int i) j pos) (tC (.int i)) := fun _ _ _ H _ I h => wpAny_Constant_int ⟨.int i, H, I.tok _, ⟨_, rfl⟩, h⟩
theorem pe_bl {b j pos} : PE X (.Constant (.bool b) j pos) (tC (.bl b)) := fun _ _ _ H _ I h => Constant_bool ⟨.bl b, H, I, rfl, h⟩
theorem pe_non {j pos} : PE X (.Constant .none j pos) (tC .non) := fun _ _ _ H _ I h => Constant_none ⟨.non, H, I, rfl, h⟩
theorem pe_str {x j pos} : PE X (.Constant (.str x) j pos) (tC (.str x)) := fun _ _ _ H _ I h => Calls.Constant_str ⟨.str x, H, I.tok _, ⟨_, rfl⟩, h⟩
def Gl (X : Cx) (x : Str) : Prop := X.env.kindOf x = some .globalImplicit
theorem ld_glob {E : Value → Shared → Prop} {pins : List (Addr × Obj)} {s : Shared} {σ : St} {H : Hp} {x : Str} {u : Value} {pos : Pos} {Q : Value → Shared → Prop} (I : Inv X pins σ H s) (hg : Gl X x) (hm : X.mg x = some u) (h : Q u s)
    (hd : (x == ("__debug__" : Str)) = false := by decide) : wpAny (model X.prog X.w) X.A (eval (.Name x pos) X.env) Q E s :=
  Calls.Name_function_global I.ok.kind hg (Calls.loadGlobal_global (by rw [I.ok.glob]; exact I.mod.glob.keeps I.bk) hm h) hd
theorem ld_blt {E : Value → Shared → Prop} {pins : List (Addr × Obj)} {s : Shared} {σ : St} {H : Hp} {x : Str} {u : Value} {pos : Pos} {Q : Value → Shared → Prop} (I : Inv X pins σ H s) (hg : Gl X x) (hm : X.mg x = none) (hv : bootBuiltins x = some u) (h : Q u s)
    (hn : x ≠ "__name__" := by decide) (hd : (x == ("__debug__" : Str)) = false := by decide) : wpAny (model X.prog X.w) X.A (eval (.Name x pos) X.env) Q E s := by
  obtain ⟨mb, h1, h2⟩ := I.mod.blt
  exact Calls.Name_function_global I.ok.kind hg (Calls.loadGlobal_builtin (by rw [I.ok.glob]; exact I.mod.glob.keeps I.bk) hm (by rw [I.ok.blt]; exact h1.keeps I.bk) ((h2 x hn).trans hv) h) hd
theorem pe_glob {x : Str} {v : V} {u : Value} {pos : Pos} (hg : Gl X x) (hm : X.mg x = some u) (r : RelV v u) (hd : (x == ("__debug__" : Str)) = false := by decide) : PE X (.Name x pos) (tC v) :=
  fun _ _ _ H _ I h => ld_glob I hg hm ⟨v, H, I, r, h⟩ hd
theorem pe_bltn {x : Str} {v : V} {u : Value} {pos : Pos} (hg : Gl X x) (hm : X.mg x = none) (hv : bootBuiltins x = some u) (r : RelV v u) (hn : x ≠ "__name__" := by decide) (hd : (x == ("__debug__" : Str)) = false := by decide) : PE X (.Name x pos) (tC v) :=
  fun _ _ _ H _ I h => ld_blt I hg hm hv ⟨v, H, I, r, h⟩ hn hd
variable {a b : Expr} {ta tb : TE} {pos : Pos}
variable {tA tB' : TT} {rest : List Expr}
def tAnd (t u : TT) : TT := fun σ H Q => t σ H fun c H1 => if c = true then u σ H1 Q else Q false H1
def tOr (t u : TT) : TT := fun σ H Q => t σ H fun c H1 => if c = true then Q true H1 else u σ H1 Q
def tNot (t : TT) : TT := fun σ H Q => t σ H fun c H1 => Q (!c) H1
theorem pw_and1 (ha : PT X a tA) : PW X (.BoolOp .And [a] pos) tA := by
  intro wh pins s σ H Q I h
  refine isTrue_and (thn (ha pins s σ H Q I h) fun c s1 e => ?_)
  cases c with
  | true => exact isTrue_and_nil e
  | false => exact e
theorem pw_or1 (ha : PT X a tA) : PW X (.BoolOp .Or [a] pos) tA := by
  intro wh pins s σ H Q I h
  refine isTrue_or (thn (ha pins s σ H Q I h) fun c s1 e => ?_)
  cases c with
  | false => exact isTrue_or_nil e
  | true => exact e
theorem pw_and (ha : PT X a tA) (hb : PW X (.BoolOp .And (b :: rest) pos) tB') : PW X (.BoolOp .And (a :: b :: rest) pos) (tAnd tA tB') := by
  intro wh pins s σ H Q I h
  refine isTrue_and (thn (ha pins s σ H _ I h) fun c s1 ⟨H1, I1, q1⟩ => ?_)
  cases c with
  | true => exact hb wh pins s1 σ H1 Q I1 q1
  | false => exact ⟨H1, I1, q1⟩
theorem pw_or (ha : PT X a tA) (hb : PW X (.BoolOp .Or (b :: rest) pos) tB') : PW X (.BoolOp .Or (a :: b :: rest) pos) (tOr tA tB') := by
  intro wh pins s σ H Q I h
  refine isTrue_or (thn (ha pins s σ H _ I h) fun c s1 ⟨H1, I1, q1⟩ => ?_)
  cases c with
  | true => exact ⟨H1, I1, q1⟩
  | false => exact hb wh pins s1 σ H1 Q I1 q1
theorem pt_not (ha : PT X a tA) : PT X (.UnaryOp .Not a pos) (tNot tA) := by
  intro pins s σ H Q I h
  exact isTrue_not (ha pins s σ H (fun c H1 => Q (!c) H1) I h)
def tAndV (ta tb : TE) : TE := fun σ H Q => ta σ H fun x H1 => ∃ c, x = .bl c ∧ if c = true then tb σ H1 Q else Q (.bl false) H1
def tOrV (ta tb : TE) : TE := fun σ H Q => ta σ H fun x H1 => ∃ c, x = .bl c ∧ if c = true then Q (.bl true) H1 else tb σ H1 Q
theorem pe_one {op} {t : TE} (h : PE X a t) : PE X (.BoolOp op [a] pos) t := fun pins s σ H Q I hw => BoolOp_one (h pins s σ H Q I hw)
theorem pe_and (ha : PE X a ta) (hb : PE X (.BoolOp .And (b :: rest) pos) tb) : PE X (.BoolOp .And (a :: b :: rest) pos) (tAndV ta tb) := by
  intro pins s σ H Q I h
  refine BoolOp_and (thn (ha pins s σ H _ I h) fun v s1 ⟨x, H1, I1, r1, q1⟩ => ?_)
  obtain ⟨c, rfl, q1⟩ := q1
  cases r1
  refine wpAny_truthy_bool ?_
  cases c with
  | true => exact hb pins s1 σ H1 Q I1 q1
  | false => exact ⟨.bl false, H1, I1, rfl, q1⟩
theorem pe_or (ha : PE X a ta) (hb : PE X (.BoolOp .Or (b :: rest) pos) tb) : PE X (.BoolOp .Or (a :: b :: rest) pos) (tOrV ta tb) := by
  intro pins s σ H Q I h
  refine BoolOp_or (thn (ha pins s σ H _ I h) fun v s1 ⟨x, H1, I1, r1, q1⟩ => ?_)
  obtain ⟨c, rfl, q1⟩ := q1
  cases r1
  refine wpAny_truthy_bool ?_
  cases c with
  | false => exact hb pins s1 σ H1 Q I1 q1
  | true => exact ⟨.bl true, H1, I1, rfl, q1⟩
def tIf (t : TT) (ta tb : TE) : TE := fun σ H Q => t σ H fun c H1 => if c = true then ta σ H1 Q else tb σ H1 Q
theorem pe_ifExp {c : Expr} (hc : PT X c tA) (ha : PE X a ta) (hb : PE X b tb) : PE X (.IfExp c a b pos) (tIf tA ta tb) := by
  intro pins s σ H Q I h
  refine wpAny_IfExp (thn (hc pins s σ H _ I h) fun d s1 ⟨H1, I1, q1⟩ => ?_)
  cases d with
  | true => exact ha pins s1 σ H1 Q I1 q1
  | false => exact hb pins s1 σ H1 Q I1 q1
end
end L2
namespace L2
open PySem PySem.Spec PyProof.Rows
def SqL (K : PySem.W.Frag) (H : Hp) (a : Addr) (xs : List V) : Prop :=
  Rd H a (.lst xs) ∨
    ∃ (o : Obj) (its : Array Value) (n : Nat), K.lookup a = some o ∧ o.cls = .type "list" ∧ o.dict = none ∧ o.data = .seq its n ∧ its.size ≤ sizeLine ∧ Vals xs its.toList
def SqT (K : PySem.W.Frag) (H : Hp) (a : Addr) (xs : List V) : Prop :=
  Rd H a (.tup xs) ∨
    ∃ (o : Obj) (its : Array Value) (n : Nat), K.lookup a = some o ∧ o.cls = .type "tuple" ∧ o.data = .seq its n ∧ its.size ≤ sizeLine ∧ Vals xs its.toList
def absV : Value → Option V
  | .none => some .non
  | .bool b => some (.bl b)
  | .int i _ => some (.int i)
  | .str x _ => some (.str x)
  | .bytes b _ => some (.byt b)
  | .float b _ => some (.flt b)
  | .ref a => some (.ref a)
  | .type n => some (.ty n)
  | _ => none
theorem RelV.abs {x : V} {u : Value} (r : RelV x u) : absV u = some x := by
  cases x with
  | non => cases r; rfl
  | bl _ => cases r; rfl
  | int _ => obtain ⟨t, rfl⟩ := r; rfl
  | str _ => obtain ⟨t, rfl⟩ := r; rfl
  | byt _ => obtain ⟨t, rfl⟩ := r; rfl
  | flt _ => obtain ⟨t, rfl⟩ := r; rfl
  | ref _ => cases r; rfl
  | ty _ => cases r; rfl
theorem RelV.inj {x y : V} {u : Value} (r : RelV x u) (q : RelV y u) : x = y := Option.some.inj (r.abs.symm.trans q.abs)
theorem Vals.inj : ∀ {xs ys : List V} {us : List Value}, Vals xs us → Vals ys us → xs = ys
  | _, _, _, .nil, .nil => rfl
  | _, _, _, .cons r t, .cons r' t' => by rw [r.inj r', Vals.inj t t']
section
variable {X : Cx} {pins : List (Addr × Obj)} {σ : St} {H : Hp} {s : Shared} {a : Addr} {xs ys : List V}
theorem SqL.of {K : PySem.W.Frag} (h : H a = some (.lst xs)) : SqL K H a xs := .inl (.inl h)
theorem SqT.of {K : PySem.W.Frag} (h : H a = some (.tup xs)) : SqT K H a xs := .inl (.inl h)
theorem Inv.list (I : Inv X pins σ H s) (h : SqL X.K H a xs) : ∃ its : List Value, Vals xs its ∧ PlainL s.heap a its.toArray ∧ xs.length ≤ sizeLine := by
  rcases h with h | ⟨o, its, n, hk, hc, hd, hs, hz, r⟩
  · obtain ⟨z, its, n, r, e⟩ := h.ok I.hok
    exact ⟨its, r, ⟨_, n, e, rfl, rfl, rfl⟩, z⟩
  · refine ⟨its.toList, r, ⟨o, n, I.kIn a o hk, hc, hd, by simpa using hs⟩, ?_⟩
    have e := r.length
    simp only [Array.length_toList] at e
    omega
theorem Inv.tuple (I : Inv X pins σ H s) (h : SqT X.K H a xs) : ∃ its : List Value, Vals xs its ∧ IsTup s.heap a its.toArray ∧ xs.length ≤ sizeLine := by
  rcases h with h | ⟨o, its, n, hk, hc, hs, hz, r⟩
  · obtain ⟨z, its, r, p⟩ := h.ok I.hok
    exact ⟨its, r, p, z⟩
  · refine ⟨its.toList, r, ⟨o, I.kIn a o hk, hc, n, by simpa using hs⟩, ?_⟩
    have e := r.length
    simp only [Array.length_toList] at e
    omega
theorem Inv.list_inj (I : Inv X pins σ H s) (h : SqL X.K H a xs) (h' : SqL X.K H a ys) : xs = ys := by
  obtain ⟨its, r, ⟨o, n, e, _, _, d⟩, _⟩ := I.list h
  obtain ⟨its', r', ⟨o', n', e', _, _, d'⟩, _⟩ := I.list h'
  rw [e] at e'; cases e'
  rw [d] at d'
  injection d' with d1 _
  have : its = its' := by simpa using congrArg Array.toList d1
  subst this
  exact r.inj r'
theorem Inv.tuple_inj (I : Inv X pins σ H s) (h : SqT X.K H a xs) (h' : SqT X.K H a ys) : xs = ys := by
  obtain ⟨its, r, ⟨o, e, _, n, d⟩, _⟩ := I.tuple h
  obtain ⟨its', r', ⟨o', e', _, n', d'⟩, _⟩ := I.tuple h'
  rw [e] at e'; cases e'
  rw [d] at d'
  injection d' with d1 _
  have : its = its' := by simpa using congrArg Array.toList d1
  subst this
  exact r.inj r'
end
abbrev Cx.wish (X : Cx) (E : Value → Shared → Prop) : Cx := { X with xe := E }
abbrev Cx.nox (X : Cx) : Cx := X.wish fun _ _ => False
theorem Cx.Ok.wish {X : Cx} (ok : X.Ok) (E : Value → Shared → Prop) : (X.wish E).Ok :=
  ⟨ok.mod, ok.kind, ok.glob, ok.blt, ok.above, ok.inj, ok.has, ok.cab, ok.hd, ok.frames, ok.stk, ok.exf, ok.bs, ok.bsz, ok.noex, ok.exfs, ok.funs, ok.frf⟩
theorem Cx.Ok.unwish {X : Cx} {E : Value → Shared → Prop} (ok : (X.wish E).Ok) : X.Ok :=
  ⟨ok.mod, ok.kind, ok.glob, ok.blt, ok.above, ok.inj, ok.has, ok.cab, ok.hd, ok.frames, ok.stk, ok.exf, ok.bs, ok.bsz, ok.noex, ok.exfs, ok.funs, ok.frf⟩
section
variable {X : Cx} {pins : List (Addr × Obj)} {σ : St} {H : Hp} {s : Shared} {E : Value → Shared → Prop}
theorem Inv.wish (I : Inv X pins σ H s) (E : Value → Shared → Prop) : Inv (X.wish E) pins σ H s := ⟨I.ok.wish E, I.os, I.bare, I.base, I.loc, I.cell, I.free, I.freeC, I.pin, I.hok, I.len⟩
theorem Inv.unwish (I : Inv (X.wish E) pins σ H s) : Inv X pins σ H s := ⟨I.ok.unwish, I.os, I.bare, I.base, I.loc, I.cell, I.free, I.freeC, I.pin, I.hok, I.len⟩
theorem SP.unwish {D : Ends} {f : Flow} {s' : Shared} (h : SP (X.wish E) pins D f s') : SP X pins D f s' := by
  cases f with
  | next => obtain ⟨σ', H', I, q⟩ := h; exact ⟨σ', H', I.unwish, q⟩
  | brk => obtain ⟨σ', H', I, q⟩ := h; exact ⟨σ', H', I.unwish, q⟩
  | cont => obtain ⟨σ', H', I, q⟩ := h; exact ⟨σ', H', I.unwish, q⟩
  | ret u => obtain ⟨v, σ', H', I, r, q⟩ := h; exact ⟨v, σ', H', I.unwish, r, q⟩
theorem PE.nox {e : Expr} {t : TE} (h : PE X.nox e t) : PE X e t := fun pins s σ H Q I hw =>
  wpAny_mono (h pins s σ H Q (I.wish _) hw) (fun _ _ ⟨v, H', I', r, q⟩ => ⟨v, H', I'.unwish, r, q⟩) fun _ _ z => False.elim z
theorem PT.nox {e : Expr} {t : TT} (h : PT X.nox e t) : PT X e t := fun pins s σ H Q I hw =>
  wpAny_mono (h pins s σ H Q (I.wish _) hw) (fun _ _ ⟨H', I', q⟩ => ⟨H', I'.unwish, q⟩) fun _ _ z => False.elim z
theorem PSs.nox {st : List Stmt} {t : TS} (h : PSs X.nox st t) : PSs X st t := fun pins s σ H D I hw =>
  wpAny_mono (h pins s σ H D (I.wish _) hw) (fun _ _ q => q.unwish) fun _ _ z => False.elim z
end
section
variable {X : Cx} {st : Stmt} {rest : List Stmt} {t u : TS} {e : Expr} {te : TE} {pos : Pos}
def tNext : TS := fun D σ H => D.nx σ H
def tSeq (t u : TS) : TS := fun D σ H => t { D with nx := u D } σ H
theorem pss_nil : PSs X [] tNext := fun _ _ σ H _ I h => wpAny_execs_nil ⟨σ, H, I, h⟩
theorem pss_cons (h1 : PS X st t) (h2 : PSs X rest u) : PSs X (st :: rest) (tSeq t u) := by
  intro pins s σ H D I h
  refine wpAny_execs_cons (thn (h1 pins s σ H { D with nx := u D } I h) fun f s1 q => ?_)
  cases f with
  | next =>
    obtain ⟨σ', H', I', q⟩ := q
    exact h2 pins s1 σ' H' D I' q
  | ret v => exact q
  | brk => exact q
  | cont => exact q
theorem pss_one (h1 : PS X st t) : PSs X [st] t := by
  intro pins s σ H D I h
  refine wpAny_execs_cons (thn (h1 pins s σ H D I h) fun f s1 q => ?_)
  cases f with
  | next => exact wpAny_execs_nil q
  | ret v => exact q
  | brk => exact q
  | cont => exact q
theorem Inv.quiet {pins : List (Addr × Obj)} {σ : St} {H : Hp} {s : Shared} (I : Inv X pins σ H s) : interactive X.env = false := by simp [interactive, I.ok.kind]
def tDrop (te : TE) : TS := fun D σ H => te σ H fun _ H1 => D.nx σ H1
theorem ps_expr (he : PE X e te) (hs : swapsWith e none pos.line X.env = pure false := by rfl) : PS X (.Expr e pos) (tDrop te) := by
  intro pins s σ H D I h
  exact wpAny_Expr_any (thn (he pins s σ H _ I h) fun v s1 ⟨x, H1, I1, r1, q1⟩ => ⟨σ, H1, I1, q1⟩) I.quiet hs
def tRet (te : TE) : TS := fun D σ H => te σ H D.rt
theorem ps_ret (he : PE X e te) : PS X (.Return (some e) pos) (tRet te) := by
  intro pins s σ H D I h
  exact wpAny_Return_some (thn (he pins s σ H _ I h) fun v s1 ⟨x, H1, I1, r1, q1⟩ => ⟨x, σ, H1, I1, r1, q1⟩)
def tRetN : TS := fun D _ H => D.rt .non H
theorem ps_retN : PS X (.Return none pos) tRetN := fun _ _ σ H _ I h => wpAny_Return_none ⟨.non, σ, H, I, rfl, h⟩
def tIfS (c : TT) (t u : TS) : TS := fun D σ H => c σ H fun b H1 => if b = true then t D σ H1 else u D σ H1
theorem ps_if {c : Expr} {a b : List Stmt} {tc : TT} (hc : PT X c tc) (ha : PSs X a t) (hb : PSs X b u) : PS X (.If c a b pos) (tIfS tc t u) := by
  intro pins s σ H D I h
  refine wpAny_If (thn (hc pins s σ H _ I h) fun d s1 ⟨H1, I1, q1⟩ => ?_)
  cases d with
  | true => exact ha pins s1 σ H1 D I1 q1
  | false => exact hb pins s1 σ H1 D I1 q1
end
abbrev TG := V → St → Hp → (St → Hp → Prop) → Prop
def PG (X : Cx) (target : Expr) (t : TG) : Prop :=
  ∀ (pins : List (Addr × Obj)) (s : Shared) (σ : St) (H : Hp) (v : V) (u : Value) (Q : St → Hp → Prop), Inv X pins σ H s → RelV v u → t v σ H Q →
    wpAny (model X.prog X.w) X.A (assign target X.env u) (fun _ s' => ∃ σ' H', Inv X pins σ' H' s' ∧ Q σ' H') X.xe s
section
variable {X : Cx} {pos : Pos}
def gName (i : Nat) : TG := fun v σ H Q => Q (σ.set i (some v)) H
theorem pg_name {i : Nat} {x : Str} (hN : X.N.Nodup) (hi : X.N[i]? = some x) (hx : Loc X.env.scope x) (hf : X.fn x = true ∨ X.env.scope.names.lookup x = some .local := by first | exact .inl rfl | exact .inr rfl | assumption) : PG X (.Name x pos) (gName i) := by
  intro pins s σ H v u Q I r h
  exact wpAny_assign_Name (store_ok I hN hi hx r (fun s' I' => ⟨_, H, I', h⟩) hf)
def tAsg (te : TE) (g : TG) : TS := fun D σ H => te σ H fun x H1 => g x σ H1 D.nx
theorem ps_set {i : Nat} {x : Str} {e : Expr} {te : TE} {pos' : Pos} (hN : X.N.Nodup) (hi : X.N[i]? = some x) (hx : Loc X.env.scope x) (he : PE X e te) (hs : swapsWith e (some (.Name x pos')) pos.line X.env = pure false := by rfl) (hf : X.fn x = true ∨ X.env.scope.names.lookup x = some .local := by first | exact .inl rfl | exact .inr rfl | assumption) :
    PS X (.Assign [.Name x pos'] e pos) (tAsg te (gName i)) := by
  intro pins s σ H D I h
  refine wpAny_Assign_Name (thn (he pins s σ H _ I h) fun v s1 ⟨y, H1, I1, r1, q1⟩ => ?_) hs
  exact store_ok I1 hN hi hx r1 (fun s2 I2 => ⟨_, H1, I2, q1⟩) hf
end
section
variable {X : Cx} {pos : Pos}
def tWhile (c : TT) (tb : TS) : TS := fun D σ H => ∃ W : Nat → St → Hp → Prop, (∃ m, W m σ H) ∧ ∀ m σ H, W m σ H →
  c σ H fun b H1 => if b = true then ∃ N : St → Hp → Prop, (∀ σ' H', N σ' H' → ∃ m', m' < m ∧ W m' σ' H') ∧ tb { D with nx := N, ct := N, bk := D.nx } σ H1 else D.nx σ H1
theorem ps_while {c : Expr} {body : List Stmt} {tc : TT} {tb : TS} (hp : PassesOwn (model X.prog X.w) X.A X.env X.xe) (hc : PT X c tc) (hb : PSs X body tb) : PS X (.While c body [] pos) (tWhile tc tb) := by
  intro pins s σ H D I h
  obtain ⟨W, ⟨m0, w0⟩, turn⟩ := h
  refine wpAny_While (codeAny_whileLoop (fun n s' => ∃ σ' H', Inv X pins σ' H' s' ∧ W n σ' H') ?_ m0 ⟨σ, H, I, w0⟩)
  rintro n s1 ⟨σ1, H1, I1, w1⟩
  refine wpAny_passesOwn hp (thn (hc pins s1 σ1 H1 _ I1 (turn n σ1 H1 w1)) fun b s2 ⟨H2, I2, q2⟩ => ?_)
  cases b with
  | true =>
    obtain ⟨N, hN, q2⟩ := q2
    rw [if_pos rfl]
    refine wpAny_passesOwn hp (thn (hb pins s2 σ1 H2 _ I2 q2) fun f s3 q3 => ?_)
    cases f with
    | next =>
      obtain ⟨σ3, H3, I3, n3⟩ := q3
      obtain ⟨m', hm, w3⟩ := hN σ3 H3 n3
      exact ⟨m', hm, σ3, H3, I3, w3⟩
    | cont =>
      obtain ⟨σ3, H3, I3, n3⟩ := q3
      obtain ⟨m', hm, w3⟩ := hN σ3 H3 n3
      exact ⟨m', hm, σ3, H3, I3, w3⟩
    | brk => exact q3
    | ret v => exact q3
  | false =>
    rw [if_neg Bool.false_ne_true]
    exact wpAny_execs_nil ⟨σ1, H2, I2, q2⟩
end
structure It where
  go : Nat → Hp → Prop
  yld : Nat → Hp → V → Hp → Prop
  stop : Nat → Hp → Prop
def FpOk (X : Cx) (pins : List (Addr × Obj)) (H : Hp) (b : Addr) : Prop :=
  H b = none ∧ b ≠ X.env.locals ∧ b ∉ X.fs ∧ (b ∈ X.ex ∨ X.s₀.heap.objs.size ≤ b) ∧ (∀ x c, X.env.cells.lookup x = some c → c ≠ b) ∧ ∀ p ∈ X.pn ++ pins, p.1 ≠ b
theorem Inv.fpOk {X : Cx} {pins : List (Addr × Obj)} {σ : St} {H H' : Hp} {s : Shared} {b : Addr} (I : Inv X pins σ H s) (hb : s.heap.objs.size ≤ b) (hn : H' b = none) : FpOk X pins H' b := by
  refine ⟨hn, Nat.ne_of_gt (Nat.lt_of_lt_of_le I.lt hb), I.nofs hb, .inr (Nat.le_trans I.sz hb), fun x c e z => ?_, fun p hp z => ?_⟩
  · obtain ⟨v, q⟩ := I.cell x c e
    exact absurd (Nat.lt_of_lt_of_le q.lt (by rw [z]; exact hb)) (Nat.lt_irrefl _)
  · exact absurd (Nat.lt_of_lt_of_le (Heap.lt_size (I.pin p hp).1) (by rw [z]; exact hb)) (Nat.lt_irrefl _)
structure Turn (P : Program) (w : World) (K : PySem.W.Frag) (tg : Expr) (J : It) (fp : List Addr) (it : Addr) (tn : Nat → Heap → Prop) : Prop where
  mem : it ∈ fp
  obj : ∀ i h, tn i h → ∀ b ∈ fp, ∃ o, h.get? b = some o ∧ ∀ v, o.data ≠ .cell v
  keep : ∀ i h h', tn i h → (∀ b ∈ fp, ∀ o, h.get? b = some o → h'.get? b = some o) → tn i h'
  item : ∀ (X : Cx), X.prog = P → X.w = w → X.K = K → X.calm = true → ∀ (i : Nat) (pins : List (Addr × Obj)) (s : Shared) (σ : St) (H : Hp) (E : Value → Shared → Prop), Inv X pins σ H s → (∀ b ∈ fp, FpOk X pins H b) → tn i s.heap → J.go i H →
    wpAny (model P w) X.A (pyNext (.ref it)) (fun r s1 => ∃ u, r = some u ∧
      wpAny (model P w) X.A (letOwnedTupleGo tg (.ref it) u) (fun _ s2 => ∃ x H', Inv X pins σ H' s2 ∧ RelV x u ∧ J.yld i H x H' ∧ tn (i + 1) s2.heap ∧ ∀ b ∈ fp, H' b = none) E s1) E s
  done : ∀ (X : Cx), X.prog = P → X.w = w → X.K = K → X.calm = true → ∀ (i : Nat) (pins : List (Addr × Obj)) (s : Shared) (σ : St) (H : Hp) (E : Value → Shared → Prop), Inv X pins σ H s → (∀ b ∈ fp, FpOk X pins H b) → tn i s.heap → J.stop i H →
    wpAny (model P w) X.A (pyNext (.ref it)) (fun r s1 => r = none ∧ Inv X pins σ H s1) E s
  self : ∀ (A : Around) (i : Nat) (s : Shared) (Q : Value → Shared → Prop) (E : Value → Shared → Prop), tn i s.heap → Q (.ref it) s → wpAny (model P w) A (pyIter (.ref it)) Q E s
abbrev TI := St → Hp → (It → Hp → Prop) → Prop
def PIE (X : Cx) (pins : List (Addr × Obj)) (σ : St) (tg : Expr) (R : It → Hp → Prop) (itv : Value) (s2 : Shared) : Prop :=
  ∃ (it : Addr) (fp : List Addr) (tn : Nat → Heap → Prop) (J : It) (H' : Hp), itv = .ref it ∧ Inv X pins σ H' s2 ∧ Turn X.prog X.w X.K tg J fp it tn ∧ tn 0 s2.heap ∧ (∀ b ∈ fp, FpOk X pins H' b) ∧ R J H'
def PI (X : Cx) (tg iter : Expr) (wi : TI) : Prop :=
  ∀ (pins : List (Addr × Obj)) (s : Shared) (σ : St) (H : Hp) (R : It → Hp → Prop), Inv X pins σ H s → wi σ H R →
    wpAny (model X.prog X.w) X.A (eval iter X.env) (fun v s1 => wpAny (model X.prog X.w) X.A (pyIter v) (PIE X pins σ tg R) X.xe s1) X.xe s
theorem go_of {M : Model} {A : Around} {E : Value → Shared → Prop} {s : Shared} {tg : Expr} {it : Addr} {u : Value} {o : Obj} {n : String} {vs : Array Value} {Q : Unit → Shared → Prop} (ho : s.heap.get? it = some o) (hc : o.cls = .type n) (hd : o.data = .fields vs)
    (hn : ["enumerate", "zip", "dict_itemiterator", "dict_reverseitemiterator", "odict_iterator", "itertools.zip_longest", "itertools.pairwise"].contains n = false) (hQ : Q () s) : wpAny M A (letOwnedTupleGo tg (.ref it) u) Q E s := by
  unfold letOwnedTupleGo
  cases tg <;> first
    | exact wpAny_pure hQ
    | (cases u <;> first
        | exact wpAny_pure hQ
        | (refine wpAny_bind (wpAny_load ho ?_)
           rw [hc, hd]
           show wpAny M A (if (["enumerate", "zip", "dict_itemiterator", "dict_reverseitemiterator", "odict_iterator", "itertools.zip_longest", "itertools.pairwise"].contains n && vs[0]? == some (rawInt _)) = true then _ else _) Q E s
           rw [if_neg (by intro h; rw [hn, Bool.false_and] at h; cases h)]
           exact wpAny_pure hQ))
def Itl (K : PySem.W.Frag) (a : Addr) : It :=
  ⟨fun i H => ∃ xs x, SqL K H a xs ∧ xs[i]? = some x, fun i H x H' => H' = H ∧ ∀ xs, SqL K H a xs → xs[i]? = some x, fun i H => ∃ xs, SqL K H a xs ∧ xs.length ≤ i⟩
def Itt (K : PySem.W.Frag) (a : Addr) : It :=
  ⟨fun i H => ∃ xs x, SqT K H a xs ∧ xs[i]? = some x, fun i H x H' => H' = H ∧ ∀ xs, SqT K H a xs → xs[i]? = some x, fun i H => ∃ xs, SqT K H a xs ∧ xs.length ≤ i⟩
def Itr (lo : Int) (n : Nat) : It := ⟨fun i _ => i < n, fun i H x H' => H' = H ∧ x = .int (lo + i), fun i _ => n ≤ i⟩
theorem turn_list {P : Program} {w : World} {K : PySem.W.Frag} {tg : Expr} (a it : Addr) : Turn P w K tg (Itl K a) [it] it (fun i h => h.IsListIter it a i) where
  mem := by simp
  obj := fun i h st b hb => by
    have e : b = it := by simpa using hb
    subst e
    obtain ⟨o, e, c, d⟩ := st
    exact ⟨o, e, fun v z => by rw [d] at z; cases z⟩
  keep := fun i h h' st k => st.at fun o e => k it (by simp) o e
  item := by
    intro X hP hw hK hc i pins s σ H E I hf st hg
    subst hP hw hK
    obtain ⟨xs, x, hq, hx⟩ := hg
    obtain ⟨its, rv, p, hz⟩ := I.list hq
    obtain ⟨u, hu, ru⟩ := rv.get hx
    obtain ⟨f0, f1, f2, f3, f4, f5⟩ := hf it (by simp)
    refine wpAny_pyNext_list_item st p.isList (x := u) (by simpa using hu) fun h' st' sb => ?_
    have I1 : Inv X pins σ H { s with heap := h' } := I.turned (t' := s.toks) (fun b o hb e => (sb.2 b hb).trans e) f0 f1 f3 f4 f5
    obtain ⟨o, e, c, d⟩ := id st'
    exact ⟨u, rfl, go_of (s := { s with heap := h' }) e c d (by decide) ⟨x, H, I1, ru, ⟨rfl, fun ys hy => by rw [I.list_inj hy hq]; exact hx⟩, st', fun b hb => (hf b hb).1⟩⟩
  done := by
    intro X hP hw hK hc i pins s σ H E I hf st hg
    subst hP hw hK
    obtain ⟨xs, hq, hx⟩ := hg
    obtain ⟨its, rv, p, hz⟩ := I.list hq
    obtain ⟨f0, f1, f2, f3, f4, f5⟩ := hf it (by simp)
    have hl := rv.length
    exact wpAny_pyNext_list_end (I.ok.hd hc) st p.isList (by simp; omega) fun h' eb => ⟨rfl, I.turned (t' := s.toks) (fun b o hb e => eb b o hb e) f0 f1 f3 f4 f5⟩
  self := fun _ _ _ _ _ st h => wpAny_pyIter_listiter st h
theorem turn_tuple {P : Program} {w : World} {K : PySem.W.Frag} {tg : Expr} (a it : Addr) : Turn P w K tg (Itt K a) [it] it (fun i h => h.IsTupleIter it a i) where
  mem := by simp
  obj := fun i h st b hb => by
    have e : b = it := by simpa using hb
    subst e
    obtain ⟨o, e, c, d⟩ := st
    exact ⟨o, e, fun v z => by rw [d] at z; cases z⟩
  keep := fun i h h' st k => st.at fun o e => k it (by simp) o e
  item := by
    intro X hP hw hK hc i pins s σ H E I hf st hg
    subst hP hw hK
    obtain ⟨xs, x, hq, hx⟩ := hg
    obtain ⟨its, rv, p, hz⟩ := I.tuple hq
    obtain ⟨u, hu, ru⟩ := rv.get hx
    obtain ⟨f0, f1, f2, f3, f4, f5⟩ := hf it (by simp)
    refine wpAny_pyNext_tuple_item st (show s.heap.IsTuple a its.toArray from p) (x := u) (by simpa using hu) fun h' st' sb => ?_
    have I1 : Inv X pins σ H { s with heap := h' } := I.turned (t' := s.toks) (fun b o hb e => (sb.2 b hb).trans e) f0 f1 f3 f4 f5
    obtain ⟨o, e, c, d⟩ := id st'
    exact ⟨u, rfl, go_of (s := { s with heap := h' }) e c d (by decide) ⟨x, H, I1, ru, ⟨rfl, fun ys hy => by rw [I.tuple_inj hy hq]; exact hx⟩, st', fun b hb => (hf b hb).1⟩⟩
  done := by
    intro X hP hw hK hc i pins s σ H E I hf st hg
    subst hP hw hK
    obtain ⟨xs, hq, hx⟩ := hg
    obtain ⟨its, rv, p, hz⟩ := I.tuple hq
    obtain ⟨f0, f1, f2, f3, f4, f5⟩ := hf it (by simp)
    have hl := rv.length
    exact wpAny_pyNext_tuple_end (I.ok.hd hc) st (show s.heap.IsTuple a its.toArray from p) (by simp; omega) fun h' eb => ⟨rfl, I.turned (t' := s.toks) (fun b o hb e => eb b o hb e) f0 f1 f3 f4 f5⟩
  self := fun _ _ _ _ _ st h => wpAny_pyIter_tupleiter st h
theorem turn_range {P : Program} {w : World} {K : PySem.W.Frag} {tg : Expr} (it : Addr) (lo : Int) (n : Nat) : Turn P w K tg (Itr lo n) [it] it (fun i h => IsRangeIter h it (lo + (i : Nat) * 1) ((n : Int) - (i : Nat)) 1) where
  mem := by simp
  obj := fun i h st b hb => by
    have e : b = it := by simpa using hb
    subst e
    exact ⟨_, st, fun v z => by
      have z' : Data.fields _ = Data.cell v := z
      cases z'⟩
  keep := fun i h h' st k => k it (by simp) _ st
  item := by
    intro X hP hw hK hc i pins s σ H E I hf st hg
    subst hP hw hK
    obtain ⟨f0, f1, f2, f3, f4, f5⟩ := hf it (by simp)
    have W := Walks.range (prog := X.prog) (w := X.w) (I.ok.hd hc) it lo 1 n
    refine W.item i s _ _ hg st fun v h' tk hv st' kk => ?_
    obtain ⟨t, rfl⟩ := hv
    have I1 : Inv X pins σ H { s with heap := h', toks := tk } := I.turned (fun b o hb e => kk b o (by simpa using hb) e) f0 f1 f3 f4 f5
    refine ⟨_, rfl, go_of (s := { s with heap := h', toks := tk }) (n := "range_iterator") st' rfl rfl (by decide) ⟨.int (lo + i), H, I1, ⟨t, ?_⟩, ⟨rfl, rfl⟩, st', fun b hb => (hf b hb).1⟩⟩
    rw [Int.mul_one]
  done := by
    intro X hP hw hK hc i pins s σ H E I hf st hg
    subst hP hw hK
    obtain ⟨f0, f1, f2, f3, f4, f5⟩ := hf it (by simp)
    exact wpAny_pyNext_range_end (I.ok.hd hc) st (by have : n ≤ i := hg; omega) fun h' eb => ⟨rfl, I.turned (t' := s.toks) (fun b o hb e => eb b o hb e) f0 f1 f3 f4 f5⟩
  self := fun _ _ _ _ _ st h => wpAny_pyIter_rangeiter st h
end L2
namespace L2
open PySem PySem.Spec PyProof.Rows
section
variable {X : Cx} {tg : Expr}
theorem range_it {pins : List (Addr × Obj)} {σ : St} {H : Hp} {s : Shared} {R : It → Hp → Prop} {E : Value → Shared → Prop} {lo hi : Int} {t u v : Tok} {tk : Nat} (I : Inv X pins σ H s) (h1 : -(2 ^ 62) ≤ lo) (h2 : lo < 2 ^ 62) (h3 : -(2 ^ 62) ≤ hi) (h4 : hi < 2 ^ 62)
    (q : R (Itr lo (hi - lo).toNat) H) : wpAny (model X.prog X.w) X.A (pyIter (.ref s.heap.objs.size)) (PIE X pins σ tg R) E { s with heap := s.heap.push { cls := .type "range", data := .fields #[.int lo t, .int hi u, .int 1 v] }, toks := tk } := by
  refine wpAny_pyIter_range (IsRange.new ..) (small_one h1 h2 h3 h4) ?_
  have I1 : Inv X pins σ H { s with heap := s.heap.push { cls := .type "range", data := .fields #[.int lo t, .int hi u, .int 1 v] }, toks := tk } := I.kept fun b o e => Heap.get?_push_of_some _ e
  refine ⟨(s.heap.push { cls := .type "range", data := .fields #[.int lo t, .int hi u, .int 1 v] }).objs.size, [(s.heap.push { cls := .type "range", data := .fields #[.int lo t, .int hi u, .int 1 v] }).objs.size], _, _, H, rfl,
    I1.kept (t' := tk) fun b o e => Heap.get?_push_of_some _ e, turn_range _ lo (hi - lo).toNat, ?_, fun b hb => ?_, q⟩
  · have e1 : lo + ((0 : Nat) : Int) * 1 = lo := by simp
    have e2 : (((hi - lo).toNat : Nat) : Int) - ((0 : Nat) : Int) = Builtin.Range.rangeSize lo hi 1 := by rw [rangeSize_one]; split <;> omega
    show IsRangeIter _ _ (lo + ((0 : Nat) : Int) * 1) ((((hi - lo).toNat : Nat) : Int) - ((0 : Nat) : Int)) 1
    rw [e1, e2]
    exact Heap.get?_push_size _ rfl
  · have e : b = (s.heap.push { cls := .type "range", data := .fields #[.int lo t, .int hi u, .int 1 v] }).objs.size := by simpa using hb
    subst e
    exact I1.fpOk (Nat.le_refl _) (I1.hok.fresh (Nat.le_refl _))
def iRng1 (ta : TA) : TI := fun σ H R => ta σ H fun vs H1 => ∃ j : Int, vs = [.int j] ∧ -(2 ^ 62) ≤ j ∧ j < 2 ^ 62 ∧ R (Itr 0 j.toNat) H1
theorem pi_range1 {a : Expr} {ta : TA} {p pos : Pos} (hg : Gl X "range") (hm : X.mg "range" = none) (ha : PA X [a] ta) (hs : starEach [a] X.env = [(false, eval a X.env)] := by rfl) : PI X tg (.Call (.Name "range" p) [a] [] pos) (iRng1 ta) := by
  intro pins s σ H R I h
  refine Call_ (ld_blt I hg hm boot_range (PyProof.Rows.callWith_type1 (thn (ha pos pins s σ H _ I h) fun us s1 ⟨vs, H1, I1, r1, q1⟩ => ?_) hs rfl))
  obtain ⟨j, e, q1, q2, q⟩ := q1
  subst e
  cases r1 with
  | cons r rr =>
    cases rr
    obtain ⟨t, rfl⟩ := r
    exact call_range_1 (range_it I1 (by omega) (by omega) q1 q2 (by simpa using q))
def tFor (wi : TI) (g : TG) (tb : TS) : TS := fun D σ H => wi σ H fun J H1 => ∃ W : Nat → Nat → St → Hp → Prop, (∃ m, W 0 m σ H1) ∧ ∀ i m σ H, W i m σ H →
  (J.stop i H ∧ D.nx σ H) ∨ (J.go i H ∧ ∃ N : St → Hp → Prop, (∀ σ' H', N σ' H' → ∃ m', m' < m ∧ W (i + 1) m' σ' H') ∧ ∀ x H', J.yld i H x H' → g x σ H' fun σ2 H2 => tb { D with nx := N, ct := N, bk := D.nx } σ2 H2)
def pinsAt (fp : List Addr) (h : Heap) : List (Addr × Obj) := fp.filterMap fun b => (h.get? b).map fun o => (b, o)
theorem mem_pinsAt {fp : List Addr} {h : Heap} {b : Addr} {o : Obj} (hb : b ∈ fp) (e : h.get? b = some o) : (b, o) ∈ pinsAt fp h := List.mem_filterMap.mpr ⟨b, hb, by rw [e]; rfl⟩
theorem of_pinsAt {fp : List Addr} {h : Heap} {p : Addr × Obj} (hp : p ∈ pinsAt fp h) : p.1 ∈ fp ∧ h.get? p.1 = some p.2 := by
  obtain ⟨b, hb, e⟩ := List.mem_filterMap.mp hp
  cases q : h.get? b with
  | none => rw [q] at e; cases e
  | some o =>
    rw [q] at e
    have e' : (b, o) = p := Option.some.inj e
    subst e'
    exact ⟨hb, q⟩
theorem Inv.pinned {pins : List (Addr × Obj)} {σ : St} {H : Hp} {s : Shared} {fp : List Addr} (I : Inv X pins σ H s) (hf : ∀ b ∈ fp, FpOk X pins H b) (ho : ∀ b ∈ fp, ∃ o, s.heap.get? b = some o ∧ ∀ v, o.data ≠ .cell v) : Inv X (pins ++ pinsAt fp s.heap) σ H s :=
  I.pins_of fun p hp => (List.mem_append.mp hp).elim (fun z => I.pin p (List.mem_append_right _ z)) fun z => by
    obtain ⟨hb, e⟩ := of_pinsAt z
    obtain ⟨f0, f1, f2, _⟩ := hf p.1 hb
    obtain ⟨o, e', d⟩ := ho p.1 hb
    rw [e] at e'; cases e'
    exact ⟨e, f0, f1, f2, d⟩
theorem Inv.unpinned {pins pl : List (Addr × Obj)} {σ : St} {H : Hp} {s : Shared} (I : Inv X (pins ++ pl) σ H s) : Inv X pins σ H s := I.pins_of fun p hp => I.pin p (List.mem_append_right _ (List.mem_append_left _ hp))
theorem ps_for {iter : Expr} {body : List Stmt} {wi : TI} {g : TG} {tb : TS} {pos : Pos} (hp : PassesOwn (model X.prog X.w) X.A X.env X.xe) (hc : X.calm = true) (hi : PI X tg iter wi) (hg : PG X tg g) (hb : PSs X body tb)
    (hs : ∀ x, foldedSetIterable iter X.env x = pure x := by intro _; rfl) : PS X (.For tg iter body [] pos) (tFor wi g tb) := by
  intro pins s σ H D I h
  refine wpAny_For (thn (hi pins s σ H _ I h) fun v s1 h1 => thn h1 fun itv s2 h2 => ?_) hs
  obtain ⟨it, fp, tn, J, H2, e, I2, T, st2, f2, W, ⟨m0, w0⟩, turn⟩ := h2
  subst e
  have stat : ∀ {H' : Hp}, (∀ b ∈ fp, H' b = none) → ∀ b ∈ fp, FpOk X pins H' b := fun hn b hb => ⟨hn b hb, (f2 b hb).2⟩
  refine codeAny_forLoop_any (fun n s' => ∃ i σ' H', Inv X pins σ' H' s' ∧ tn i s'.heap ∧ (∀ b ∈ fp, H' b = none) ∧ W i n σ' H') ?_ m0 ⟨0, σ, H2, I2, st2, fun b hb => (f2 b hb).1, w0⟩
  rintro n s3 ⟨i, σ3, H3, I3, st3, fr3, w3⟩
  rcases turn i n σ3 H3 w3 with ⟨stop, qn⟩ | ⟨go, N, hN, step⟩
  · refine wpAny_passesOwn hp (thn (T.done X rfl rfl rfl hc i pins s3 σ3 H3 X.xe I3 (stat fr3) st3 stop) fun r s4 ⟨hr, I4⟩ => ?_)
    subst hr
    exact wpAny_execs_nil ⟨σ3, H3, I4, qn⟩
  · refine wpAny_passesOwn hp (thn (T.item X rfl rfl rfl hc i pins s3 σ3 H3 X.xe I3 (stat fr3) st3 go) fun r s4 ⟨u, hr, h4⟩ => ?_)
    subst hr
    refine wpAny_passesOwn hp (thn h4 fun _ s5 ⟨x, H5, I5, r5, y5, st5, fr5⟩ => ?_)
    have I5' := I5.pinned (stat fr5) (T.obj _ _ st5)
    refine wpAny_passesOwn hp (thn (hg _ s5 σ3 H5 x u _ I5' r5 (step x H5 y5)) fun _ s6 ⟨σ6, H6, I6, q6⟩ => ?_)
    refine wpAny_passesOwn hp (thn (hb _ s6 σ6 H6 _ I6 q6) fun f s7 q7 => ?_)
    have again : ∀ {σ7 : St} {H7 : Hp}, Inv X (pins ++ pinsAt fp s5.heap) σ7 H7 s7 → N σ7 H7 → ∃ m, m < n ∧ ∃ i σ' H', Inv X pins σ' H' s7 ∧ tn i s7.heap ∧ (∀ b ∈ fp, H' b = none) ∧ W i m σ' H' := fun {σ7 H7} I7 n7 => by
      obtain ⟨m', hm, w7⟩ := hN σ7 H7 n7
      refine ⟨m', hm, i + 1, σ7, H7, I7.unpinned, T.keep _ _ _ st5 fun b hb o e => (I7.pin (b, o) (List.mem_append_right _ (List.mem_append_right _ (mem_pinsAt hb e)))).1, fun b hb => ?_, w7⟩
      obtain ⟨o, e, d⟩ := T.obj _ _ st5 b hb
      exact (I7.pin (b, o) (List.mem_append_right _ (List.mem_append_right _ (mem_pinsAt hb e)))).2.1
    cases f with
    | next => obtain ⟨σ7, H7, I7, n7⟩ := q7; exact again I7 n7
    | cont => obtain ⟨σ7, H7, I7, n7⟩ := q7; exact again I7 n7
    | brk => obtain ⟨σ7, H7, I7, q7⟩ := q7; exact ⟨σ7, H7, I7.unpinned, q7⟩
    | ret v => obtain ⟨x7, σ7, H7, I7, r7, q7⟩ := q7; exact ⟨x7, σ7, H7, I7.unpinned, r7, q7⟩
end
end L2
namespace L2
open PySem PySem.Spec PyProof.Rows
abbrev R2 := V → V → Hp → VK → Prop
def OpR (X : Cx) (f : Value → Value → Sem Value) (r : R2) : Prop :=
  ∀ (pins : List (Addr × Obj)) (s : Shared) (σ : St) (H : Hp) (x y : V) (v u : Value) (Q : VK), Inv X pins σ H s → RelV x v → RelV y u → r x y H Q →
    wpAny (model X.prog X.w) X.A (f v u) (EP X pins σ Q) X.xe s
def CallR (X : Cx) (f : Value) (r : List V → Hp → VK → Prop) : Prop :=
  ∀ (pins : List (Addr × Obj)) (s : Shared) (σ : St) (H : Hp) (xs : List V) (us : List Value) (Q : VK), Inv X pins σ H s → Vals xs us → r xs H Q →
    wpAny (model X.prog X.w) X.A (call f us) (EP X pins σ Q) X.xe s
def TruR (X : Cx) (r : V → Hp → (Bool → Hp → Prop) → Prop) : Prop :=
  ∀ (pins : List (Addr × Obj)) (s : Shared) (σ : St) (H : Hp) (x : V) (v : Value) (Q : Bool → Hp → Prop), Inv X pins σ H s → RelV x v → r x H Q →
    wpAny (model X.prog X.w) X.A (truthy v) (TP X pins σ Q) X.xe s
def tOp (r : R2) (ta tb : TE) : TE := fun σ H Q => ta σ H fun x H1 => tb σ H1 fun y H2 => r x y H2 Q
def rI (C : Int → Int → Prop) (g : Int → Int → V) : R2 := fun x y H Q => ∃ i j, x = .int i ∧ y = .int j ∧ C i j ∧ Q (g i j) H
def rI0 (g : Int → Int → V) : R2 := fun x y H Q => ∃ i j, x = .int i ∧ y = .int j ∧ Q (g i j) H
section
variable {X : Cx} {a b c : Expr} {ta tb tc : TE} {pos : Pos}
theorem binT (ha : PE X a ta) (hb : PE X b tb) {pins : List (Addr × Obj)} {s : Shared} {σ : St} {H : Hp} {R : V → V → Hp → Prop} (I : Inv X pins σ H s)
    (h : ta σ H fun x H1 => tb σ H1 fun y H2 => R x y H2) {Q : Value → Shared → Prop} {f : Value → Value → Sem Value}
    (hf : ∀ v u s2 x y H2, Inv X pins σ H2 s2 → RelV x v → RelV y u → R x y H2 → wpAny (model X.prog X.w) X.A (f v u) Q X.xe s2) :
    wpAny (model X.prog X.w) X.A (eval a X.env) (fun v s₁ => wpAny (model X.prog X.w) X.A (eval b X.env) (fun u s₂ => wpAny (model X.prog X.w) X.A (f v u) Q X.xe s₂) X.xe s₁) X.xe s := by
  refine thn (ha pins s σ H _ I h) fun v s1 ⟨x, H1, I1, r1, q1⟩ => ?_
  refine thn (hb pins s1 σ H1 _ I1 q1) fun u s2 ⟨y, H2, I2, r2, q2⟩ => ?_
  exact hf v u s2 x y H2 I2 r1 r2 q2
theorem pe_op {op : Operator} {r : R2} (ho : OpR X (binaryOp op) r) (ha : PE X a ta) (hb : PE X b tb) : PE X (.BinOp a op b pos) (tOp r ta tb) := by
  intro pins s σ H Q I h
  exact wpAny_BinOp (binT ha hb I h fun v u s2 x y H2 I2 rx ry q => ho pins s2 σ H2 x y v u Q I2 rx ry q)
theorem opI {f : Value → Value → Sem Value} {C : Int → Int → Prop} {g : Int → Int → Int}
    (rule : ∀ (i j : Int) (t u : Tok) (s : Shared) (Q : Value → Shared → Prop) (E : Value → Shared → Prop), C i j → Q (.int (g i j) s.toks) { s with toks := s.toks + 1 } → wpAny (model X.prog X.w) X.A (f (.int i t) (.int j u)) Q E s) :
    OpR X f (rI C fun i j => .int (g i j)) := by
  intro pins s σ H x y v u Q I rx ry h
  obtain ⟨i, j, rfl, rfl, hc, q⟩ := h
  obtain ⟨t, rfl⟩ := rx
  obtain ⟨t', rfl⟩ := ry
  exact rule i j t t' s _ _ hc ⟨.int (g i j), H, I.tok _, ⟨_, rfl⟩, q⟩
theorem opI0 {f : Value → Value → Sem Value} {g : Int → Int → Int}
    (rule : ∀ (i j : Int) (t u : Tok) (s : Shared) (Q : Value → Shared → Prop) (E : Value → Shared → Prop), Q (.int (g i j) s.toks) { s with toks := s.toks + 1 } → wpAny (model X.prog X.w) X.A (f (.int i t) (.int j u)) Q E s) :
    OpR X f (rI0 fun i j => .int (g i j)) := by
  intro pins s σ H x y v u Q I rx ry h
  obtain ⟨i, j, rfl, rfl, q⟩ := h
  obtain ⟨t, rfl⟩ := rx
  obtain ⟨t', rfl⟩ := ry
  exact rule i j t t' s _ _ ⟨.int (g i j), H, I.tok _, ⟨_, rfl⟩, q⟩
theorem opB0 {f : Value → Value → Sem Value} {g : Int → Int → Bool}
    (rule : ∀ (i j : Int) (t u : Tok) (s : Shared) (Q : Value → Shared → Prop) (E : Value → Shared → Prop), Q (.bool (g i j)) s → wpAny (model X.prog X.w) X.A (f (.int i t) (.int j u)) Q E s) :
    OpR X f (rI0 fun i j => .bl (g i j)) := by
  intro pins s σ H x y v u Q I rx ry h
  obtain ⟨i, j, rfl, rfl, q⟩ := h
  obtain ⟨t, rfl⟩ := rx
  obtain ⟨t', rfl⟩ := ry
  exact rule i j t t' s _ _ ⟨.bl (g i j), H, I, rfl, q⟩
def CMul (i j : Int) : Prop := (-(2 ^ 64) < i ∧ i < 2 ^ 64) ∨ (-(2 ^ 64) < j ∧ j < 2 ^ 64)
theorem CMul.ok {i j : Int} (h : CMul i j) : IntMulOk i j := by
  rcases h with ⟨h1, h2⟩ | ⟨h1, h2⟩
  · exact .of_left (intBits_le_64 h1 h2)
  · exact .of_right (intBits_le_64 h1 h2)
theorem op_add : OpR X (binaryOp .Add) (rI0 fun i j => .int (i + j)) := opI0 fun _ _ _ _ _ _ _ q => add_int q
theorem op_sub : OpR X (binaryOp .Sub) (rI0 fun i j => .int (i - j)) := opI0 fun _ _ _ _ _ _ _ q => sub_int q
theorem op_mul : OpR X (binaryOp .Mult) (rI CMul fun i j => .int (i * j)) := opI fun _ _ _ _ _ _ _ hc q => mul_int q hc.ok
theorem op_mod : OpR X (binaryOp .Mod) (rI (fun _ j => 0 < j) fun i j => .int (i % j)) := opI fun i j _ _ _ _ _ hc q => by
  have h1 : (0 : Int) < j := hc
  exact mod_int' (by omega) (by rw [Int.fmod_eq_emod_of_nonneg i (by omega)]; exact q)
theorem op_and : OpR X (binaryOp .BitAnd) (rI0 fun i j => .int (Builtin.bitAnd i j)) := opI0 fun _ _ _ _ _ _ _ q => and_int q
end
section
variable {X : Cx} {a b c : Expr} {ta tb tc : TE} {pos : Pos}
theorem fin_bl {pins : List (Addr × Obj)} {σ : St} {H : Hp} {s : Shared} {Q : VK} {k k' : Bool} (I : Inv X pins σ H s) (q : Q (.bl k) H) (e : k = k') : EP X pins σ Q (.bool k') s := by
  subst e
  exact ⟨.bl k, H, I, rfl, q⟩
theorem op_le : OpR X (compareOp .LtE) (rI0 fun i j => .bl (decide (i ≤ j))) := opB0 fun _ _ _ _ _ _ _ q => le_int q
theorem op_gt : OpR X (compareOp .Gt) (rI0 fun i j => .bl (decide (j < i))) := opB0 fun _ _ _ _ _ _ _ q => gt_int q
theorem op_ge : OpR X (compareOp .GtE) (rI0 fun i j => .bl (decide (j ≤ i))) := opB0 fun _ _ _ _ _ _ _ q => ge_int q
theorem op_isN : OpR X (compareOp .Is) (fun x y H Q => y = .non ∧ Q (.bl (decide (x = .non))) H) := by
  intro pins s σ H x y v u Q I rx ry h
  obtain ⟨rfl, q⟩ := h
  cases ry
  refine is_none_gen (fin_bl I q ?_)
  cases x <;> first
    | (cases rx; rfl)
    | (obtain ⟨t, rfl⟩ := rx; rfl)
theorem op_notN : OpR X (compareOp .IsNot) (fun x y H Q => y = .non ∧ Q (.bl (!decide (x = .non))) H) := by
  intro pins s σ H x y v u Q I rx ry h
  obtain ⟨rfl, q⟩ := h
  cases ry
  refine isnot_none_gen (fin_bl I q ?_)
  cases x <;> first
    | (cases rx; rfl)
    | (obtain ⟨t, rfl⟩ := rx; rfl)
theorem OpR.or {f : Value → Value → Sem Value} {r r' : R2} (h : OpR X f r) (h' : OpR X f r') : OpR X f (fun x y H Q => r x y H Q ∨ r' x y H Q) := by
  intro pins s σ H x y v u Q I rx ry q
  rcases q with q | q
  · exact h pins s σ H x y v u Q I rx ry q
  · exact h' pins s σ H x y v u Q I rx ry q
theorem nomark (b : Expr) {op : CmpOp} (h : op ≠ .In := by decide) (h2 : op ≠ .NotIn := by decide) : behindInMarks op b = false := by
  have e1 : (op == CmpOp.In) = false := by cases op <;> first | rfl | exact absurd rfl h
  have e2 : (op == CmpOp.NotIn) = false := by cases op <;> first | rfl | exact absurd rfl h2
  cases b <;> simp [behindInMarks, e1, e2]
theorem pe_cmpR {op : CmpOp} {r : R2} (ho : OpR X (compareOp op) r) (ha : PE X a ta) (hb : PE X b tb) (hm : behindInMarks op b = false) : PE X (.Compare a [op] [b] pos) (tOp r ta tb) := by
  intro pins s σ H Q I h
  exact wpAny_Compare1 (binT ha hb I h fun v u s2 x y H2 I2 rx ry q => ho pins s2 σ H2 x y v u Q I2 rx ry q) hm
def tTest (t : TE) : TT := fun σ H Q => t σ H fun x H' => ∃ k, x = .bl k ∧ Q k H'
theorem pt_cmpR {op : CmpOp} {r : R2} (ho : OpR X (compareOp op) r) (ha : PE X a ta) (hb : PE X b tb) (hm : behindInMarks op b = false) : PT X (.Compare a [op] [b] pos) (tTest (tOp r ta tb)) := by
  intro pins s σ H Q I h
  refine wpAny_isTrue_Compare1 (thn (ha pins s σ H _ I h) fun v s1 ⟨x, H1, I1, r1, q1⟩ => thn (hb pins s1 σ H1 _ I1 q1) fun u s2 ⟨y, H2, I2, r2, q2⟩ =>
    thn (ho pins s2 σ H2 x y v u _ I2 r1 r2 q2) fun c s3 ⟨z, H3, I3, r3, k, e, q3⟩ => ?_) hm
  subst e
  cases r3
  exact wpAny_truthy_bool ⟨H3, I3, q3⟩
def tChain (r r' : R2) (ta tb tc : TE) : TE := fun σ H Q => ta σ H fun x H1 => tb σ H1 fun y H2 => r x y H2 fun z H3 => ∃ k, z = .bl k ∧
  (if k = true then tc σ H3 fun w' H4 => r' y w' H4 Q else Q (.bl false) H3)
theorem pe_chain {op op' : CmpOp} {r r' : R2} (ho : OpR X (compareOp op) r) (ho' : OpR X (compareOp op') r') (ha : PE X a ta) (hb : PE X b tb) (hc : PE X c tc)
    (hm : lastMarks [op, op'] [b, c] = false := by with_unfolding_all rfl) : PE X (.Compare a [op, op'] [b, c] pos) (tChain r r' ta tb tc) := by
  intro pins s σ H Q I h
  refine Compare_chain (thn (ha pins s σ H _ I h) fun v s1 ⟨x, H1, I1, r1, q1⟩ => chain_link (thn (hb pins s1 σ H1 _ I1 q1) fun u s2 ⟨y, H2, I2, r2, q2⟩ =>
    thn (ho pins s2 σ H2 x y v u _ I2 r1 r2 q2) fun d s3 ⟨z, H3, I3, r3, k, e, q3⟩ => ?_)) hm
  subst e
  cases r3
  refine wpAny_truthy_bool ?_
  cases k with
  | false => exact ite_ff ⟨.bl false, H3, I3, rfl, q3⟩
  | true => exact ite_tt (chain_last (thn (hc pins s3 σ H3 _ I3 q3) fun w' s4 ⟨z', H4, I4, r4, q4⟩ => ho' pins s4 σ H4 y z' u w' Q I4 r2 r4 q4))
def TruV (K : PySem.W.Frag) (x : V) (H : Hp) (k : Bool) : Prop :=
  match x with
  | .non => k = false
  | .bl b => k = b
  | .int i => k = (i != 0)
  | .str y => y.length ≤ sizeLine ∧ k = ((y.length : Int) != 0)
  | .byt y => y.size ≤ sizeLine ∧ k = ((y.size : Int) != 0)
  | .ref p => (∃ xs, SqL K H p xs ∧ k = !xs.isEmpty) ∨ (∃ xs, SqT K H p xs ∧ k = !xs.isEmpty) ∨ ∃ kvs, H p = some (.dK kvs) ∧ k = !kvs.isEmpty
  | _ => False
theorem isEmpty_kv {κ : Type} {kvs : List (κ × V)} {vs : List (κ × Value)} (r : KV kvs vs) : (!vs.isEmpty) = !kvs.isEmpty := by
  cases r <;> rfl
theorem isEmpty_of {xs : List V} {its : List Value} (r : Vals xs its) : (!its.toArray.isEmpty) = !xs.isEmpty := by
  cases r <;> simp
theorem line63 : (sizeLine : Nat) < 2 ^ 63 := by rw [sizeLine_eq]; decide
theorem tru_ok : TruR X (fun x H Q => ∃ k, TruV X.K x H k ∧ Q k H) := by
  intro pins s σ H x v Q I rx h
  obtain ⟨k, e, q⟩ := h
  have hl := line63
  have hs : sizeLine = 16777216 := sizeLine_eq
  cases x with
  | non =>
    cases rx
    have e' : k = false := e
    subst e'
    exact truthy_none ⟨H, I, q⟩
  | bl b =>
    cases rx
    have e' : k = b := e
    subst e'
    exact wpAny_truthy_bool ⟨H, I, q⟩
  | int i =>
    obtain ⟨t, rfl⟩ := rx
    have e' : k = (i != 0) := e
    subst e'
    exact PySem.P.truthy_int ⟨H, I, q⟩
  | str y =>
    obtain ⟨t, rfl⟩ := rx
    obtain ⟨hy, e'⟩ : y.length ≤ sizeLine ∧ k = ((y.length : Int) != 0) := e
    subst e'
    exact PySem.P.truthy_str (by omega) ⟨H, I.tok _, q⟩
  | byt y =>
    obtain ⟨t, rfl⟩ := rx
    obtain ⟨hy, e'⟩ : y.size ≤ sizeLine ∧ k = ((y.size : Int) != 0) := e
    subst e'
    exact PySem.W.truthy_bytes (by omega) ⟨H, I.tok _, q⟩
  | ref p =>
    cases rx
    have e' : (∃ xs, SqL X.K H p xs ∧ k = !xs.isEmpty) ∨ (∃ xs, SqT X.K H p xs ∧ k = !xs.isEmpty) ∨ ∃ kvs, H p = some (.dK kvs) ∧ k = !kvs.isEmpty := e
    rcases e' with ⟨xs, hx, e'⟩ | ⟨xs, hx, e'⟩ | ⟨kvs, hx, e'⟩
    · subst e'
      obtain ⟨its, r, pl, hz⟩ := I.list hx
      have hlen := r.length
      exact wpAny_truthy_list pl.isList (by simp only [List.size_toArray]; omega) ⟨H, I.tok _, by rw [isEmpty_of r]; exact q⟩
    · subst e'
      obtain ⟨its, r, pl, hz⟩ := I.tuple hx
      have hlen := r.length
      exact truthy_tuple pl (by simp only [List.size_toArray]; omega) ⟨H, I.tok _, by rw [isEmpty_of r]; exact q⟩
    · subst e'
      obtain ⟨hz, hS, vs, r, m⟩ : kvs.length ≤ sizeLine ∧ (p == sysModules) = false ∧ ∃ vs, KV kvs vs ∧ s.heap.DictOf (mixKind X.prog X.w) p vs := I.hok p _ hx
      have hlen : kvs.length = vs.length := Paired.length r
      exact wpAny_truthy_dict hS m (by omega) ⟨H, I.tok _, by rw [isEmpty_kv r]; exact q⟩
  | _ => exact (show False from e).elim
theorem pt_truth (ha : PE X a ta) (he : ∀ whole, isTrue a X.env whole = (do let v ← whole; standAt a.pos; holding [v] (truthy v))) :
    PT X a (fun σ H Q => ta σ H fun x H' => ∃ k, TruV X.K x H' k ∧ Q k H') := by
  intro pins s σ H Q I h
  exact isTrue_plain (thn (ha pins s σ H _ I h) fun v s1 ⟨x, H1, I1, r1, q1⟩ => tru_ok pins s1 σ H1 x v Q I1 r1 q1) (he _)
theorem op_add_str : OpR X (binaryOp .Add) (fun x y H Q => ∃ i j, x = .str i ∧ y = .str j ∧ i.length + j.length ≤ sizeLine ∧ Q (.str (i ++ j)) H) := by
  intro pins s σ H x y v u Q I rx ry h
  obtain ⟨i, j, rfl, rfl, hz, q⟩ := h
  obtain ⟨t, rfl⟩ := rx
  obtain ⟨t', rfl⟩ := ry
  exact add_str (fun t' tk => ⟨.str (i ++ j), H, I.tok _, ⟨_, rfl⟩, q⟩) hz
theorem vals1 {x : V} {us : List Value} (r : Vals [x] us) : ∃ u, us = [u] ∧ RelV x u := by
  cases r with
  | cons r1 r2 => cases r2; exact ⟨_, rfl, r1⟩
theorem vals2 {x y : V} {us : List Value} (r : Vals [x, y] us) : ∃ u w', us = [u, w'] ∧ RelV x u ∧ RelV y w' := by
  cases r with
  | cons r1 r2 =>
    cases r2 with
    | cons r3 r4 => cases r4; exact ⟨_, _, rfl, r1, r3⟩
theorem call_min2 (hc : X.calm = true) : CallR X (.builtin "min") (fun xs H Q => ∃ i j, xs = [.int i, .int j] ∧ Q (.int (if j < i then j else i)) H) := by
  intro pins s σ H xs us Q I r h
  obtain ⟨i, j, rfl, q⟩ := h
  obtain ⟨u, w', rfl, ⟨t, rfl⟩, ⟨t', rfl⟩⟩ := vals2 r
  refine min_two_ints (I.ok.hd hc) fun h' tk k => ⟨_, H, I.kept k, ?_, q⟩
  by_cases hj : j < i
  · rw [if_pos hj, if_pos hj]; exact ⟨_, rfl⟩
  · rw [if_neg hj, if_neg hj]; exact ⟨_, rfl⟩
theorem call_int1 : CallR X (.type "int") (fun xs H Q => (∃ i, xs = [.int i] ∧ Q (.int i) H) ∨ ∃ k, xs = [.bl k] ∧ Q (.int (if k then 1 else 0)) H) := by
  intro pins s σ H xs us Q I r h
  rcases h with ⟨i, rfl, q⟩ | ⟨k, rfl, q⟩
  · obtain ⟨u, rfl, t, rfl⟩ := vals1 r
    exact call_int_int ⟨.int i, H, I, ⟨_, rfl⟩, q⟩
  · obtain ⟨u, rfl, r1⟩ := vals1 r
    cases r1
    exact call_int_bool ⟨.int (if k then 1 else 0), H, I.tok _, ⟨_, rfl⟩, q⟩
end
end L2
namespace L2
open PySem PySem.Spec PyProof.Rows
structure ObjM (h : Heap) (x dx C : Addr) (mA : Str → Option Value) : Prop where
  obj : h.get? x = some (PySem.W.instObj C dx)
  ns : h.Ns1 dx mA
  ne : dx ≠ x
theorem lookIn_ns {h : Heap} {dx : Addr} {mA : Str → Option Value} (n : h.Ns1 dx mA) : ∃ od, h.get? dx = some od ∧ ∀ name, PySem.W.lookIn name od = some (mA name) := by
  obtain ⟨o, es, ep, ho, hd, hk, _, hm⟩ := n
  refine ⟨o, ho, fun name => ?_⟩
  have e := hm name
  unfold nsFind findBy at e
  rw [← Array.find?_toList] at e
  unfold PySem.W.lookIn
  rw [hd]
  dsimp only
  split
  · rename_i y q
    rw [q] at e
    exact congrArg some e
  · rename_i q
    rw [q] at e
    have a : es.toList.any (·.refKey) = false := by
      rw [List.any_eq_false]
      intro y hy
      obtain ⟨z, t, hkey⟩ := hk y (Array.mem_toList_iff.mp hy)
      simp [DictEntry.refKey, hkey]
    have a' : ¬ es.toList.any (·.refKey) = true := by rw [a]; exact Bool.false_ne_true
    rw [if_neg a']
    exact congrArg some e
theorem ObjM.look {h : Heap} {x dx C : Addr} {mA : Str → Option Value} (I : ObjM h x dx C mA) : ∃ od, PySem.W.InstAt h x (PySem.W.instObj C dx) C (some od) ∧ ∀ name, PySem.W.lookIn name od = some (mA name) :=
  let ⟨od, ho, hl⟩ := lookIn_ns I.ns
  ⟨od, ⟨I.obj, rfl, rfl, ho⟩, hl⟩
section
variable {prog : Program} {w : World} {A : Around} {E : Value → Shared → Prop} {s : Shared} {K : PySem.W.Frag} {x dx C f : Addr} {mA : Str → Option Value} {name : Str} {v : Value}
theorem get_map {expr : Bool} {Q : Value → Shared → Prop} (X : K.In s.heap) (I : ObjM s.heap x dx C mA) (hg : PySem.W.plainGet K C name = true) (hh : PySem.W.hasDictIn K C = true)
    (ha : PySem.W.findIn K (.ref C) name = some none) (hv : mA name = some v) (hv' : PySem.W.handedIn v = true) (h : Q v { s with toks := s.toks + 1 }) :
    wpAny (model prog w) A (getAttr (.ref x) name expr) Q E s := by
  obtain ⟨od, J, hl⟩ := I.look
  exact PySem.W.get_value X J (PySem.W.plainGet_of hg).1 (PySem.W.findObj_own hh ha rfl (by rw [hl, hv])) hv' h
theorem set_map {ns : List Str} {Q : Unit → Shared → Prop} (X : K.In s.heap) (I : ObjM s.heap x dx C mA)
    (hs : PySem.W.findIn K (.ref C) "__setattr__" = some (some (.builtin "object.__setattr__"))) (hp : PySem.W.plainOver K C = true) (ht : PySem.W.takerIn K C name = some none) (hh : PySem.W.hasDictIn K C = true)
    (hw : PySem.Within mA ns) (hsz : ns.length ≤ sizeLine)
    (h : ∀ h', ObjM h' x dx C (fun y => if y = name then some v else mA y) → Heap.SameBut dx s.heap h' → Q () { s with heap := h', toks := s.toks + 2 }) :
    wpAny (model prog w) A (setAttr (.ref x) name v) Q E s := by
  obtain ⟨od, J, hl⟩ := I.look
  refine PySem.W.set_plain X J hs (PySem.W.osa_open (s := { s with toks := s.toks + 1 }) (r := none) X J hp ht fun b => ?_)
  obtain ⟨cd, hc, hd'⟩ := PySem.W.any_some hh
  have hx : s.heap.get? x = some ⟨.ref C, some dx, .plain, #[]⟩ := I.obj
  refine wpAny_bind (wpAny_pure (wpAny_bind (wpAny_bind (wpAny_loadPart hx (wpAny_bind (PySem.W.Looks.here (s := { s with toks := s.toks + 1 }) (PySem.W.looks_clsIn X hc) ?_))))))
  rw [hd']
  refine wpAny_pure (a := some dx) (wpAny_bind (wpAny_pure (wpAny_bind ?_)))
  refine wpAny_nsSet1 (s := { s with toks := s.toks + 1 }) I.ns fun h' hn2 hs2 => ?_
  obtain ⟨oD, esD, epD, hoD, hdD, hcD⟩ := hn2.count (PySem.Within.cons name v hw)
  refine wpAny_bind (wpAny_lookBehind hoD (by rw [hdD]; exact pastItsLine_dict (Nat.le_trans hcD (by rw [List.length_cons]; omega))) ?_)
  exact wpAny_pure (h _ ⟨(hs2.2 _ (Ne.symm I.ne)).trans I.obj, hn2, I.ne⟩ hs2)
theorem make_map {R : Result → Shared → Prop} {vs : List Value} {kw : List (Str × Value)} (X : K.In s.heap) (hm : PySem.W.makesIn K C = true)
    (hi : PySem.W.findIn K (.ref C) "__init__" = some (some (.ref f))) (hf : PySem.W.typeIn K (.ref f) = some (.type "function"))
    (h : codeAny (model prog w) (A.under (.builtin "type.__call__" ⟨.ref C :: vs, kw⟩)) (.call (.ref f) ⟨.ref (s.heap.objs.size + 1) :: vs, kw⟩) (PySem.W.InitBack (s.heap.objs.size + 1) R)
      { s with heap := (s.heap.push PySem.W.emptyDict).push (PySem.W.instObj C s.heap.objs.size) }) :
    codeAny (model prog w) A (.call (.ref C) ⟨vs, kw⟩) R s := by
  obtain ⟨hh, g, d, t, os⟩ := s
  exact PySem.W.make_core (PySem.W.makes_of X hm) (PySem.W.looks_findIn X hi) (fun self => PySem.W.bind_fn X self hf) (.inl rfl) h
end
def putF (f : Str) (v : V) : List (Str × V) → List (Str × V)
  | [] => [(f, v)]
  | (g, x) :: r => if g = f then (g, v) :: r else (g, x) :: putF f v r
theorem lookup_putF (f g : Str) (v : V) : ∀ fs : List (Str × V), (putF f v fs).lookup g = if g = f then some v else fs.lookup g
  | [] => by
    show List.lookup g [(f, v)] = _
    by_cases h : g = f
    · have hb : (g == f) = true := beq_iff_eq.mpr h
      simp only [List.lookup, hb, if_pos h]
    · have hb : (g == f) = false := beq_eq_false_iff_ne.mpr h
      simp only [List.lookup, hb, if_neg h]
  | (k, x) :: r => by
    have ih := lookup_putF f g v r
    rw [show putF f v ((k, x) :: r) = (if k = f then (k, v) :: r else (k, x) :: putF f v r) from rfl]
    by_cases hk : k = f
    · rw [if_pos hk]
      by_cases h : g = k
      · have hb : (g == k) = true := beq_iff_eq.mpr h
        simp only [List.lookup, hb, if_pos (h.trans hk)]
      · have hb : (g == k) = false := beq_eq_false_iff_ne.mpr h
        simp only [List.lookup, hb, if_neg (fun e : g = f => h (e.trans hk.symm))]
    · rw [if_neg hk]
      by_cases h : g = k
      · have hb : (g == k) = true := beq_iff_eq.mpr h
        simp only [List.lookup, hb, if_neg (fun e : g = f => hk (h.symm.trans e))]
      · have hb : (g == k) = false := beq_eq_false_iff_ne.mpr h
        simp only [List.lookup, hb]
        exact ih
theorem keys_putF (f : Str) (v : V) : ∀ fs : List (Str × V), f ∈ (putF f v fs).map (·.1) ∧ ∀ g, g ∈ fs.map (·.1) → g ∈ (putF f v fs).map (·.1)
  | [] => ⟨by simp [putF], fun g h => by simp at h⟩
  | (k, x) :: r => by
    obtain ⟨i1, i2⟩ := keys_putF f v r
    rw [show putF f v ((k, x) :: r) = (if k = f then (k, v) :: r else (k, x) :: putF f v r) from rfl]
    by_cases hk : k = f
    · rw [if_pos hk]
      subst hk
      exact ⟨by simp, fun g h => by simpa using h⟩
    · rw [if_neg hk]
      refine ⟨?_, fun g h => ?_⟩
      · rw [List.map_cons]
        exact List.mem_cons_of_mem _ i1
      · rw [List.map_cons] at h ⊢
        rcases List.mem_cons.mp h with e | e
        · exact List.mem_cons.mpr (.inl e)
        · exact List.mem_cons_of_mem _ (i2 g e)
theorem length_putF (f : Str) (v : V) : ∀ fs : List (Str × V), (putF f v fs).length ≤ fs.length + 1
  | [] => by simp [putF]
  | (k, x) :: r => by
    have ih := length_putF f v r
    rw [show putF f v ((k, x) :: r) = (if k = f then (k, v) :: r else (k, x) :: putF f v r) from rfl]
    by_cases hk : k = f
    · rw [if_pos hk, List.length_cons, List.length_cons]; omega
    · rw [if_neg hk, List.length_cons, List.length_cons]; omega
theorem RelO.some_of {v : V} {o : Option Value} (r : RelO (some v) o) : ∃ u, o = some u ∧ RelV v u := by
  cases o with
  | none => exact (show False from r).elim
  | some u => exact ⟨u, rfl, r⟩
theorem RelO.none_of {o : Option Value} (r : RelO none o) : o = none := by
  cases o with
  | none => rfl
  | some u => exact (show False from r).elim
theorem handed_of {v : V} {u : Value} (r : RelV v u) : PySem.W.handedIn u = true := by
  cases v with
  | non => cases (show u = Value.none from r); rfl
  | bl b => cases (show u = Value.bool b from r); rfl
  | int i => obtain ⟨t, e⟩ := (show ∃ t, u = Value.int i t from r); cases e; rfl
  | str x => obtain ⟨t, e⟩ := (show ∃ t, u = Value.str x t from r); cases e; rfl
  | byt b => obtain ⟨t, e⟩ := (show ∃ t, u = Value.bytes b t from r); cases e; rfl
  | flt b => obtain ⟨t, e⟩ := (show ∃ t, u = Value.float b t from r); cases e; rfl
  | ref a => cases (show u = Value.ref a from r); rfl
  | ty n => cases (show u = Value.type n from r); rfl
section
variable {P : Program} {w : World} {H H' : Hp} {h h' : Heap} {a C dx : Addr} {fs fs' : List (Str × V)}
theorem ins_get (hok : HOk P w H h) (e : H a = some (.ins C dx fs)) : ∃ mA, ObjM h a dx C mA ∧ (∀ f, RelO (fs.lookup f) (mA f)) ∧ PySem.Within mA (fs.map (·.1)) ∧ fs.length ≤ 1000 ∧ H dx = some (.own a) := by
  obtain ⟨d, z, ne, ob, mA, n, r, q⟩ := (show ObjOk P w H h a (.ins C dx fs) from hok a _ e)
  exact ⟨mA, ⟨ob, n, ne⟩, r, q, z, d⟩
end
structure Cls (K : PySem.W.Frag) (C : Addr) : Prop where
  pg : PySem.W.plainGet K C Str.empty = true
  hd : PySem.W.hasDictIn K C = true
  po : PySem.W.plainOver K C = true
  sa : PySem.W.findIn K (.ref C) "__setattr__" = some (some (.builtin "object.__setattr__"))
theorem Cls.get {K : PySem.W.Frag} {C : Addr} (c : Cls K C) (f : Str) : PySem.W.plainGet K C f = true := c.pg
def NoAttr (K : PySem.W.Frag) (C : Addr) (f : Str) : Prop := PySem.W.findIn K (.ref C) f = some none
theorem NoAttr.taker {K : PySem.W.Frag} {C : Addr} {f : Str} (n : NoAttr K C f) : PySem.W.takerIn K C f = some none := by
  unfold PySem.W.takerIn
  rw [show PySem.W.findIn K (.ref C) f = some none from n]
  rfl
structure Con (K : PySem.W.Frag) (C : Addr) (f : Str) (v : V) (u : Value) : Prop where
  at_ : PySem.W.findIn K (.ref C) f = some (some u)
  rel : RelV v u
  get : PySem.W.specialIn K u "__get__" = some none
  cp : PySem.W.copiedNames.contains f = false
structure Meth (K : PySem.W.Frag) (C : Addr) (m : Str) (f : Addr) : Prop where
  at_ : PySem.W.findIn K (.ref C) m = some (some (.ref f))
  fn : PySem.W.isFn K (.ref f) = true
  kp : PySem.W.keepIn K (.ref f) = true
section
variable {X : Cx} {pins : List (Addr × Obj)} {σ : St} {H : Hp} {s : Shared} {a C dx : Addr} {fs : List (Str × V)} {f : Str} {v : V} {A : Around} {E : Value → Shared → Prop}
theorem getattr_ok {b : Bool} {Q : Value → Shared → Prop} (I : Inv X pins σ H s) (e : H a = some (.ins C dx fs)) (c : Cls X.K C) (n : NoAttr X.K C f) (l : fs.lookup f = some v)
    (h : ∀ u s', Inv X pins σ H s' → RelV v u → Q u s') : wpAny (model X.prog X.w) A (getAttr (.ref a) f b) Q E s := by
  obtain ⟨mA, O, r, _, _, _⟩ := ins_get I.hok e
  obtain ⟨u, hu, ru⟩ := RelO.some_of (v := v) (o := mA f) (by rw [← l]; exact r f)
  exact get_map I.kIn O (c.get f) c.hd n hu (handed_of ru) (h u _ (I.tok _) ru)
theorem setattr_ok {y : V} {u : Value} {Q : Unit → Shared → Prop} (I : Inv X pins σ H s) (e : H a = some (.ins C dx fs)) (c : Cls X.K C) (n : NoAttr X.K C f) (hl : fs.length < 1000) (ry : RelV y u)
    (h : ∀ s', Inv X pins σ (upd H a (.ins C dx (putF f y fs))) s' → Q () s') : wpAny (model X.prog X.w) A (setAttr (.ref a) f u) Q E s := by
  obtain ⟨mA, O, r, wi, _, ho⟩ := ins_get I.hok e
  have hz : (fs.map (·.1)).length ≤ sizeLine := by rw [List.length_map, sizeLine_eq]; omega
  refine set_map I.kIn O c.sa c.po n.taker c.hd wi hz fun h' O' sb => h _ ?_
  have hd : ∃ o, h'.get? dx = some o := let ⟨o, _, _, e', _⟩ := O'.ns; ⟨o, e'⟩
  refine I.write (x := a) (e := dx) (by rw [e]; exact True.intro) (.inr ho) (fun b q hb z => (sb.2 b hb).trans z) hd ?_
  refine ⟨by rw [upd_ne O.ne]; exact ho, ?_, O.ne, O'.obj, _, O'.ns, fun g => ?_, fun g hg => ?_⟩
  · have := length_putF f y fs; omega
  · show RelO ((putF f y fs).lookup g) (if g = f then some u else mA g)
    rw [lookup_putF]
    by_cases q : g = f
    · rw [if_pos q, if_pos q]; exact ry
    · rw [if_neg q, if_neg q]; exact r g
  · by_cases q : g = f
    · rw [q]; exact (keys_putF f y fs).1
    · refine (keys_putF f y fs).2 g (wi g fun z => hg ?_)
      show (if g = f then some u else mA g) = none
      rw [if_neg q]; exact z
theorem Inv.made (I : Inv X pins σ H s) : Inv X pins σ (upd (upd H s.heap.objs.size (.own (s.heap.objs.size + 1))) (s.heap.objs.size + 1) (.ins C s.heap.objs.size []))
    { s with heap := (s.heap.push PySem.W.emptyDict).push (PySem.W.instObj C s.heap.objs.size) } := by
  have e1 : (s.heap.push PySem.W.emptyDict).get? s.heap.objs.size = some PySem.W.emptyDict := Heap.get?_push_size s.heap rfl
  have e2 : ((s.heap.push PySem.W.emptyDict).push (PySem.W.instObj C s.heap.objs.size)).get? (s.heap.objs.size + 1) = some (PySem.W.instObj C s.heap.objs.size) := by
    have := Heap.get?_push_size (s.heap.push PySem.W.emptyDict) (o := PySem.W.instObj C s.heap.objs.size) rfl
    rwa [Heap.size_push] at this
  have e3 : (s.heap.push PySem.W.emptyDict).Ns s.heap.objs.size (fun _ => none) := ⟨PySem.W.emptyDict, #[], _, e1, rfl, (fun e he => absurd he (by simp)), fun _ => rfl⟩
  have I1 := I.laid (a := s.heap.objs.size) (o := .own (s.heap.objs.size + 1)) (h' := s.heap.push PySem.W.emptyDict) (t' := s.toks) (fun b u q => Heap.get?_push_of_some _ q) (Nat.le_refl _) ⟨_, e1⟩
  refine I1.laid (a := s.heap.objs.size + 1) (o := .ins C s.heap.objs.size []) (t' := s.toks) (fun b u q => Heap.get?_push_of_some _ q) (Nat.le_of_eq (Heap.size_push _ _)) ?_
  have ne : s.heap.objs.size ≠ s.heap.objs.size + 1 := Nat.ne_of_lt (Nat.lt_succ_self _)
  refine ⟨by rw [upd_ne ne, upd_same], Nat.zero_le _, ne, e2, fun _ => none, (Heap.Ns1.of_empty e3).at fun o q => Heap.get?_push_of_some _ q, fun _ => True.intro, fun y hy => absurd rfl hy⟩
theorem attr_of {prog : Program} {w : World} {env : Env} {e : Expr} {f : Str} {pos : Pos} {s : Shared} {Q : Value → Shared → Prop} (hb : attributeBase e f env (eval e env) = eval e env)
    (h : wpAny (model prog w) A (eval e env) (fun o s₁ => wpAny (model prog w) A (getAttr o f true) Q E s₁) E s) : wpAny (model prog w) A (eval (.Attribute e f pos) env) Q E s :=
  Attribute_any_ h (by rw [arm_eval_Attribute, hb])
end
def tFld (K : PySem.W.Frag) (ta : TE) (f : Str) : TE := fun σ H Q => ta σ H fun x H1 => ∃ a C dx fs v, x = .ref a ∧ H1 a = some (.ins C dx fs) ∧ Cls K C ∧ NoAttr K C f ∧ fs.lookup f = some v ∧ Q v H1
def sFld (K : PySem.W.Frag) (ta tv : TE) (f : Str) : TS := fun D σ H => tv σ H fun y H1 => ta σ H1 fun x H2 => ∃ a C dx fs, x = .ref a ∧ H2 a = some (.ins C dx fs) ∧ Cls K C ∧ NoAttr K C f ∧ fs.length < 1000 ∧
  D.nx σ (upd H2 a (.ins C dx (putF f y fs)))
section
variable {X : Cx} {o e value : Expr} {f : Str} {pos pos' tpos : Pos} {ta tv : TE}
theorem pe_fld (he : PE X e ta) (hb : attributeBase e f X.env (eval e X.env) = eval e X.env) : PE X (.Attribute e f pos) (tFld X.K ta f) := by
  intro pins s σ H Q I h
  refine attr_of hb (thn (he pins s σ H _ I h) fun u s1 ⟨x, H1, I1, rx, a, C, dx, fs, v, ex, ea, c, n, l, q⟩ => ?_)
  subst ex
  obtain rfl : u = Value.ref a := rx
  exact getattr_ok I1 ea c n l fun u' s2 I2 ru => ⟨v, H1, I2, ru, q⟩
theorem ps_fld (ha : PE X o ta) (hv : PE X value tv) (hs : swapsWith value (some (.Attribute o f pos')) pos.line X.env = pure false) : PS X (.Assign [.Attribute o f pos'] value pos) (sFld X.K ta tv f) := by
  intro pins s σ H D I h
  refine plainObj_wpAny_Assign_Attribute (thn (hv pins s σ H _ I h) fun u s1 ⟨y, H1, I1, ry, q⟩ => thn (ha pins s1 σ H1 _ I1 q) fun ov s2 ⟨x, H2, I2, rx, a, C, dx, fs, ex, ea, c, n, l, q2⟩ => ?_) hs
  subst ex
  obtain rfl : ov = Value.ref a := rx
  exact setattr_ok I2 ea c n l ry fun s3 I3 => ⟨σ, _, I3, q2⟩
end
section
variable {X : Cx} {pins : List (Addr × Obj)} {σ : St} {H : Hp} {s : Shared} {A : Around} {E : Value → Shared → Prop} {Q : Value → Shared → Prop} {c : Value} {b : Bool}
inductive TyOf (K : PySem.W.Frag) (H : Hp) : V → Value → Prop where
  | non : TyOf K H .non (.type "NoneType")
  | bl (x : Bool) : TyOf K H (.bl x) (.type "bool")
  | int (i : Int) : TyOf K H (.int i) (.type "int")
  | str (x : Str) : TyOf K H (.str x) (.type "str")
  | flt (x : UInt64) : TyOf K H (.flt x) (.type "float")
  | lst {a : Addr} {xs : List V} (e : H a = some (.lst xs)) : TyOf K H (.ref a) (.type "list")
  | frz {a : Addr} {o : Obj} {xs : List V} (e : H a = some (.frz o (.lst xs))) : TyOf K H (.ref a) (.type "list")
  | tup {a : Addr} {xs : List V} (e : H a = some (.tup xs)) : TyOf K H (.ref a) (.type "tuple")
  | dK {a : Addr} {kvs : List (Key × V)} (e : H a = some (.dK kvs)) : TyOf K H (.ref a) (.type "dict")
  | dT {a : Addr} {kvs : List (List Key × V)} (e : H a = some (.dT kvs)) : TyOf K H (.ref a) (.type "dict")
  | ins {a C dx : Addr} {fs : List (Str × V)} (e : H a = some (.ins C dx fs)) (cl : Cls K C) (ha : PySem.W.findIn K (.ref C) "__class__" = some (some (.builtin "object.__class__")))
      (hn : PySem.W.specialIn K (.builtin "object.__class__") "__get__" = some (some (.builtin "getset_descriptor.__get__"))) (htk : PySem.W.takesIn K (.builtin "object.__class__") = some true)
      (hm : PySem.W.mroIn K C (.type "object") = some true) : TyOf K H (.ref a) (.ref C)
theorem isinst_ok {x : V} {u t : Value} (I : Inv X pins σ H s) (rx : RelV x u) (ty : TyOf X.K H x t) (e : PySem.W.kitOne X.K t c = some b) (h : ∀ tk, Q (.bool b) { s with toks := tk }) :
    wpAny (model X.prog X.w) A (call (.builtin "isinstance") [u, c]) Q E s := by
  cases ty with
  | non => cases (show u = Value.none from rx); exact PySem.W.kia_one PySem.W.kitx_none I.kIn True.intro e (fun z => nomatch z) h
  | bl y => cases (show u = Value.bool y from rx); exact PySem.W.kia_one PySem.W.kitx_bool I.kIn True.intro e (fun z => nomatch z) h
  | int i => obtain ⟨t, q⟩ := (show ∃ t, u = Value.int i t from rx); cases q; exact PySem.W.kia_one PySem.W.kitx_int I.kIn True.intro e (fun z => nomatch z) h
  | str y => obtain ⟨t, q⟩ := (show ∃ t, u = Value.str y t from rx); cases q; exact PySem.W.kia_one PySem.W.kitx_str I.kIn True.intro e (fun z => nomatch z) h
  | flt y => obtain ⟨t, q⟩ := (show ∃ t, u = Value.float y t from rx); cases q; exact PySem.W.kia_one PySem.W.kitx_float I.kIn True.intro e (fun z => nomatch z) h
  | @lst a xs ea =>
    cases (show u = Value.ref a from rx)
    obtain ⟨_, _, n, _, h1⟩ := (show ObjOk X.prog X.w H s.heap a (.lst xs) from I.hok a _ ea)
    exact PySem.W.kia_one PySem.W.kitx_list I.kIn ⟨_, h1, rfl⟩ e (fun z => nomatch z) h
  | @frz a ob xs ea =>
    cases (show u = Value.ref a from rx)
    obtain ⟨_, _, _, n, _, h1⟩ := (show ObjOk X.prog X.w H s.heap a (.frz ob (.lst xs)) from I.hok a _ ea)
    exact PySem.W.kia_one PySem.W.kitx_list I.kIn ⟨_, h1, rfl⟩ e (fun z => nomatch z) h
  | @tup a xs ea =>
    cases (show u = Value.ref a from rx)
    obtain ⟨_, _, _, p⟩ := (show ObjOk X.prog X.w H s.heap a (.tup xs) from I.hok a _ ea)
    obtain ⟨o, h1, h2, _⟩ := p
    exact PySem.W.kia_one PySem.W.kitx_tuple I.kIn ⟨o, h1, h2⟩ e (fun z => nomatch z) h
  | @dK a kvs ea =>
    cases (show u = Value.ref a from rx)
    obtain ⟨_, _, vs, _, p⟩ := (show ObjOk X.prog X.w H s.heap a (.dK kvs) from I.hok a _ ea)
    obtain ⟨o, es, ep, h1, h2, _⟩ := p
    exact PySem.W.kia_one PySem.W.kitx_dict I.kIn ⟨o, h1, h2.1⟩ e (fun z => nomatch z) h
  | @dT a kvs ea =>
    cases (show u = Value.ref a from rx)
    obtain ⟨_, _, xs, _, o, es, ep, h1, h2, _⟩ := (show ObjOk X.prog X.w H s.heap a (.dT kvs) from I.hok a _ ea)
    exact PySem.W.kia_one PySem.W.kitx_dict I.kIn ⟨o, h1, h2.1⟩ e (fun z => nomatch z) h
  | @ins a C dx fs ea cl ha hn htk hm =>
    cases (show u = Value.ref a from rx)
    obtain ⟨mA, O, _⟩ := ins_get I.hok ea
    obtain ⟨od, J, _⟩ := O.look
    exact PySem.W.kia_one (PySem.W.kitx_own (cl.get _) cl.hd ha hn htk hm) I.kIn J e (fun z => nomatch z) h
end
end L2
namespace L2
open PySem PySem.Spec PyProof.Rows
structure Room (k : Nat) (A : Around) : Prop where
  hd : A.handled = none
  dp : A.depth + 3 * k + 5 < recursionLimit
  un : A.units + 16 * k + 200 < cLine
theorem Room.mono {j k : Nat} {A : Around} (r : Room k A) (h : j ≤ k) : Room j A := ⟨r.hd, by have := r.dp; omega, by have := r.un; omega⟩
theorem Room.deeper {k : Nat} {A : Around} (r : Room (k + 1) A) (env : Env) : Room k (A.deeper env) :=
  ⟨r.hd, by have := r.dp; show A.depth + 1 + 3 * k + 5 < _; omega, by have := r.un; show A.units + 3 + 16 * k + 200 < _; omega⟩
theorem Room.in1 {k : Nat} {A : Around} (r : Room (k + 1) A) : Room k A.in1 :=
  ⟨r.hd, by have := r.dp; show A.depth + 3 * k + 5 < _; omega, by have := r.un; show A.units + 1 + 16 * k + 200 < _; omega⟩
theorem make_depth {A : Around} {C : Addr} {us : List Value} {kw : List (Str × Value)} : (A.under (.builtin "type.__call__" ⟨.ref C :: us, kw⟩)).depth = A.depth + 1 := by
  first | rfl | simp [Around.under, Code.weight, Code.isCreation, Code.isGuard, Code.isCaller, Code.frames, Code.isFrame, guardIds]
theorem make_units {A : Around} {C : Addr} {us : List Value} {kw : List (Str × Value)} : (A.under (.builtin "type.__call__" ⟨.ref C :: us, kw⟩)).units = A.units + 1 := by
  first | rfl | simp [Around.under, Code.cUnits, Code.frames, Code.isFrame]
theorem Room.make {k : Nat} {A : Around} (r : Room (k + 1) A) (C : Addr) (us : List Value) (kw : List (Str × Value)) : Room k (A.under (.builtin "type.__call__" ⟨.ref C :: us, kw⟩)) :=
  ⟨r.hd, by have := r.dp; rw [make_depth]; omega, by have := r.un; rw [make_units]; omega⟩
theorem Room.depth {k : Nat} {A : Around} (r : Room k A) : A.depth < recursionLimit := by have := r.dp; omega
theorem Room.units {k : Nat} {A : Around} (r : Room k A) : A.units + 64 < cLine := by have := r.un; omega
def tNil : TA := fun _ H Q => Q [] H
def tCons (ta : TE) (tr : TA) : TA := fun σ H Q => ta σ H fun x H1 => tr σ H1 fun xs H2 => Q (x :: xs) H2
section
variable {X : Cx} {e : Expr} {es : List Expr} {te : TE} {t : TA} {pos : Pos}
theorem pa_nil : PA X [] tNil := fun _ _ _ _ H Q I h => Calls.spliced_nil ⟨[], H, I, .nil, h⟩
theorem pa_cons (ha : PE X e te) (hr : PA X es t) (hs : starEach (e :: es) X.env = (false, eval e X.env) :: starEach es X.env := by rfl) : PA X (e :: es) (tCons te t) := by
  intro pos pins s σ H Q I h
  rw [hs]
  show wpAny _ _ (spliced ((false, eval e X.env) :: backTo pos (starEach es X.env))) _ _ s
  refine Calls.spliced_cons (thn (ha pins s σ H _ I h) fun u s1 ⟨x, H1, I1, r1, q1⟩ => ?_)
  exact thn (hr pos pins s1 σ H1 _ I1 q1) fun us s2 ⟨xs, H2, I2, r2, q2⟩ => ⟨x :: xs, H2, I2, .cons r1 r2, q2⟩
def tTup (t : TA) : TE := fun σ H Q => t σ H fun xs H1 => xs.length ≤ sizeLine ∧ ∀ p, H1 p = none → Q (.ref p) (upd H1 p (.tup xs))
def tLst (t : TA) : TE := fun σ H Q => t σ H fun xs H1 => xs.length ≤ sizeLine ∧ ∀ p, H1 p = none → Q (.ref p) (upd H1 p (.lst xs))
theorem pe_tup {x1} (h : PA X es t) : PE X (.Tuple es x1 pos) (tTup t) := by
  intro pins s σ H Q I hq
  refine wpAny_Tuple_spliced (thn (h pos pins s σ H _ I hq) fun us s1 ⟨xs, H1, I1, r, z, q⟩ => ⟨by rw [← r.length]; exact z, ?_⟩)
  have hf : H1 s1.heap.objs.size = none := I1.hok.fresh (Nat.le_refl _)
  refine ⟨.ref s1.heap.objs.size, upd H1 s1.heap.objs.size (.tup xs), I1.laid (t' := s1.toks) (fun b u e => Heap.get?_push_of_some _ e) (Nat.le_refl _) ?_, rfl, q _ hf⟩
  exact ⟨z, us, r, ⟨_, Heap.get?_push_size _ rfl, rfl, _, rfl⟩⟩
theorem pe_lst (h : PA X es t) : PE X (.List es pos) (tLst t) := by
  intro pins s σ H Q I hq
  refine wpAny_List_spliced (thn (h pos pins s σ H _ I hq) fun us s1 ⟨xs, H1, I1, r, z, q⟩ => ⟨by rw [← r.length]; exact z, ?_⟩)
  have hf : H1 s1.heap.objs.size = none := I1.hok.fresh (Nat.le_refl _)
  refine ⟨.ref s1.heap.objs.size, upd H1 s1.heap.objs.size (.lst xs), I1.laid (t' := s1.toks) (fun b u e => Heap.get?_push_of_some _ e) (Nat.le_refl _) ?_, rfl, q _ hf⟩
  exact ⟨z, us, 0, r, Heap.get?_push_size _ rfl⟩
end
abbrev Sp := List V → Hp → VK → XK → Prop
abbrev CXT := List Env → Hp → Shared → XK → Value → Shared → Prop
structure Env0 (P : Program) (w : World) (K : PySem.W.Frag) (mg : Str → Option Value) (base : Heap) (A : Around) (outer : List Env) (s : Shared) (H : Hp) : Prop where
  frames : A.frames = some outer
  mod : Mod K mg base
  bs : ∀ b o, base.get? b = some o → s.heap.get? b = some o ∧ H b = none
  bsz : base.objs.size ≤ s.heap.objs.size
  funs : s.heap.FunFrames base outer
  frf : ∀ b ∈ frs outer, H b = none
  hok : HOk P w H s.heap
  bare : AllBare s.gens
def CE (outer : List Env) (P : Program) (w : World) (H : Hp) (s : Shared) (Q : VK) (u : Value) (s' : Shared) : Prop :=
  ∃ v H', s'.os = s.os ∧ AllBare s'.gens ∧ Un (frs outer) [] H H' s.heap s'.heap ∧ HOk P w H' s'.heap ∧ RelV v u ∧ Q v H'
def CR (CX : CXT) (outer : List Env) (P : Program) (w : World) (H : Hp) (s : Shared) (Q : VK) (E : XK) (r : Result) (s' : Shared) : Prop :=
  match r with
  | .ok (.ret u) => CE outer P w H s Q u s'
  | .ok _ => False
  | .error e => CX outer H s E e s'
structure FnOk (P : Program) (w : World) (K : PySem.W.Frag) (mg : Str → Option Value) (base : Heap) (CX : CXT) (k : Nat) (f : Addr) (fd : FuncData) (ps : List Str) (sp : Sp) : Prop where
  len : ∀ vs H Q E, sp vs H Q E → vs.length = ps.length
  run : ∀ (A : Around) (outer : List Env) (s : Shared) (H : Hp) (args : Args) (us : List Value) (vs : List V) (Q : VK) (E : XK), Room k A → Env0 P w K mg base A outer s H → BindsTo s fd args (ps.zip us) → Vals vs us → sp vs H Q E →
    codeAny (model P w) A (.call (.ref f) args) (CR CX outer P w H s Q E) s
theorem FnOk.mono {P : Program} {w : World} {K : PySem.W.Frag} {mg : Str → Option Value} {base : Heap} {CX : CXT} {j k : Nat} {f : Addr} {fd : FuncData} {ps : List Str} {sp : Sp} (F : FnOk P w K mg base CX j f fd ps sp) (h : j ≤ k) :
    FnOk P w K mg base CX k f fd ps sp := ⟨F.len, fun A outer s H args us vs Q E hr => F.run A outer s H args us vs Q E (hr.mono h)⟩
theorem FnOk.imp {P : Program} {w : World} {K : PySem.W.Frag} {mg : Str → Option Value} {base : Heap} {CX : CXT} {k : Nat} {f : Addr} {fd : FuncData} {ps : List Str} {sp sp' : Sp} (F : FnOk P w K mg base CX k f fd ps sp)
    (h : ∀ vs H Q E, sp' vs H Q E → sp vs H Q E) : FnOk P w K mg base CX k f fd ps sp' :=
  ⟨fun vs H Q E q => F.len vs H Q E (h _ _ _ _ q), fun A outer s H args us vs Q E hr he hb hv hs => F.run A outer s H args us vs Q E hr he hb hv (h _ _ _ _ hs)⟩
theorem Env0.make {P : Program} {w : World} {K : PySem.W.Frag} {mg : Str → Option Value} {base : Heap} {A : Around} {outer : List Env} {s : Shared} {H : Hp} (e : Env0 P w K mg base A outer s H) (C : Addr) (us : List Value) (kw : List (Str × Value)) :
    Env0 P w K mg base (A.under (.builtin "type.__call__" ⟨.ref C :: us, kw⟩)) outer s H := ⟨by first | exact e.frames | (simpa [Around.under, Code.envs, Code.isFrame, pushEnvs] using e.frames), e.mod, e.bs, e.bsz, e.funs, e.frf, e.hok, e.bare⟩
theorem Env0.in1 {P : Program} {w : World} {K : PySem.W.Frag} {mg : Str → Option Value} {base : Heap} {A : Around} {outer : List Env} {s : Shared} {H : Hp} (e : Env0 P w K mg base A outer s H) :
    Env0 P w K mg base A.in1 outer s H := ⟨e.frames, e.mod, e.bs, e.bsz, e.funs, e.frf, e.hok, e.bare⟩
section
variable {X : Cx} {pins : List (Addr × Obj)} {σ : St} {H : Hp} {s s' : Shared}
theorem Inv.env0 (I : Inv X pins σ H s) : Env0 X.prog X.w X.K X.mg X.base X.A X.stack s H :=
  ⟨I.ok.frames, I.ok.mod, I.bs, Nat.le_trans I.ok.bsz I.sz, I.stack, I.stkFree, I.hok, I.bare⟩
theorem Inv.after {Q : VK} {u : Value} (I : Inv X pins σ H s) (h : CE X.stack X.prog X.w H s Q u s') : EP X pins σ Q u s' := by
  obtain ⟨v, H', os, bare, un, hok, r, q⟩ := h
  obtain ⟨hh, g, d, t, os'⟩ := s'
  obtain rfl : os' = s.os := os
  exact ⟨v, H', I.call (h' := hh) (g' := g) (d' := d) (t' := t) (ch := []) un hok bare (fun b z => absurd z (by simp)), r, q⟩
end
def tCall (sp : Sp) (dvs : List V) (E : XK) (t : TA) : TE := fun σ H Q => t σ H fun vs H1 => sp (vs ++ dvs) H1 Q E
def tMake (C : Addr) (sp : Sp) (dvs : List V) (E : XK) (t : TA) : TE := fun σ H Q => t σ H fun vs H1 => ∀ x dx, H1 x = none → H1 dx = none → dx ≠ x →
  sp (.ref x :: (vs ++ dvs)) (upd (upd H1 dx (.own x)) x (.ins C dx [])) (fun v H2 => v = .non ∧ Q (.ref x) H2) E
def Binds (K : PySem.W.Frag) (fd : FuncData) (ps : List Str) (ds : List Value) : Prop :=
  ∀ (s : Shared) (us : List Value), K.In s.heap → (us ++ ds).length = ps.length → BindsTo s fd ⟨us, []⟩ (ps.zip (us ++ ds))
theorem Binds.all {K : PySem.W.Frag} {fd : FuncData} {ps : List Str} (h : ∀ us : List Value, us.length = ps.length → bindArgs fd ⟨us, []⟩ = pure (ps.zip us)) : Binds K fd ps [] := fun s us _ hl => by
  rw [List.append_nil] at hl ⊢
  exact .of_eq (h us hl)
def Passes (CX : CXT) (X : Cx) (E : XK) : Prop := ∀ (pins : List (Addr × Obj)) (σ : St) (H : Hp) (s : Shared) (e : Value) (s' : Shared), Inv X pins σ H s → CX X.stack H s E e s' → X.xe e s'
section
variable {X : Cx} {CX : CXT} {k : Nat} {f C : Addr} {fd : FuncData} {ps : List Str} {sp : Sp} {dvs : List V} {ds : List Value} {E : XK} {x m : Str} {p pos apos : Pos} {e o : Expr} {es : List Expr} {ta : TE} {t : TA}
theorem run_fn {pins : List (Addr × Obj)} {σ : St} {H : Hp} {s : Shared} {Q : VK} {us : List Value} {vs : List V} (F : FnOk X.prog X.w X.K X.mg X.base CX k f fd ps sp) (hr : Room k X.A) (hb : Binds X.K fd ps ds) (hd : Vals dvs ds) (hx : Passes CX X E)
    (I : Inv X pins σ H s) (r : Vals vs us) (h : sp (vs ++ dvs) H Q E) : wpAny (model X.prog X.w) X.A (call (.ref f) us) (EP X pins σ Q) X.xe s := by
  have r2 : Vals (vs ++ dvs) (us ++ ds) := r.append hd
  have hl : (us ++ ds).length = ps.length := by rw [← r2.length]; exact F.len _ _ _ _ h
  refine wpAny_call (codeAny_mono (F.run X.A X.stack s H ⟨us, []⟩ (us ++ ds) (vs ++ dvs) Q E hr I.env0 (hb s us I.kIn hl) r2 h) fun r s' hq => ?_)
  cases r with
  | error e => exact hx pins σ H s e s' I hq
  | ok fl =>
    cases fl with
    | ret u => exact I.after hq
    | next => exact False.elim hq
    | brk => exact False.elim hq
    | cont => exact False.elim hq
theorem pe_call (F : FnOk X.prog X.w X.K X.mg X.base CX k f fd ps sp) (hr : Room k X.A) (hg : Gl X x) (hm : X.mg x = some (.ref f)) (hk : PySem.W.keepIn X.K (.ref f) = true) (hb : Binds X.K fd ps ds) (hd : Vals dvs ds) (hx : Passes CX X E)
    (ha : PA X (e :: es) t) (hdb : (x == ("__debug__" : Str)) = false := by decide) (he : starEach (e :: es) X.env = (false, eval e X.env) :: starEach es X.env := by rfl) (hpl : (backTo pos (starEach es X.env)).any (·.1) = false := by rfl) :
    PE X (.Call (.Name x p) (e :: es) [] pos) (tCall sp dvs E t) := by
  intro pins s σ H Q I h
  refine wpAny_Call_Name_kw (ld_glob I hg hm ?_ hdb)
  refine PySem.W.callWith_K (h₀ := X.base) I.ok.mod.kin hk (thn (ha pos pins s σ H _ I h) fun us s1 ⟨vs, H1, I1, r, q⟩ => ⟨I1.kIn, ?_⟩) he hpl
  exact run_fn F hr hb hd hx I1 r q
structure Mk (K : PySem.W.Frag) (C f : Addr) : Prop where
  makes : PySem.W.makesIn K C = true
  init : PySem.W.findIn K (.ref C) "__init__" = some (some (.ref f))
  fn : PySem.W.isFn K (.ref f) = true
  kp : PySem.W.keepIn K (.ref C) = true
theorem run_make {pins : List (Addr × Obj)} {σ : St} {H : Hp} {s : Shared} {Q : VK} {us : List Value} {vs : List V} (M : Mk X.K C f) (F : FnOk X.prog X.w X.K X.mg X.base CX k f fd ps sp) (hr : Room (k + 1) X.A) (hb : Binds X.K fd ps ds) (hd : Vals dvs ds)
    (hx : Passes CX X E) (I : Inv X pins σ H s) (r : Vals vs us)
    (h : ∀ x dx, H x = none → H dx = none → dx ≠ x → sp (.ref x :: (vs ++ dvs)) (upd (upd H dx (.own x)) x (.ins C dx [])) (fun v H2 => v = .non ∧ Q (.ref x) H2) E) :
    wpAny (model X.prog X.w) X.A (call (.ref C) us) (EP X pins σ Q) X.xe s := by
  have hq := h (s.heap.objs.size + 1) s.heap.objs.size (I.hok.fresh (Nat.le_succ _)) (I.hok.fresh (Nat.le_refl _)) (Nat.ne_of_lt (Nat.lt_succ_self _))
  have I2 := Inv.made (C := C) I
  have r2 : Vals (V.ref (s.heap.objs.size + 1) :: (vs ++ dvs)) (Value.ref (s.heap.objs.size + 1) :: (us ++ ds)) := .cons rfl (r.append hd)
  have hl : (Value.ref (s.heap.objs.size + 1) :: us ++ ds).length = ps.length := by
    have e := r2.length
    rw [F.len _ _ _ _ hq] at e
    exact e.symm
  refine wpAny_call (make_map (f := f) I.kIn M.makes M.init (beq_iff_eq.mp M.fn) (codeAny_mono (F.run _ X.stack _ _ ⟨Value.ref (s.heap.objs.size + 1) :: us, []⟩ (Value.ref (s.heap.objs.size + 1) :: (us ++ ds)) _ _ E (hr.make C us [])
    (I2.env0.make C us []) (hb _ (Value.ref (s.heap.objs.size + 1) :: us) I2.kIn hl) r2 hq) fun r s' hq' => ?_))
  cases r with
  | error e => exact hx pins σ _ _ e s' I2 hq'
  | ok fl =>
    cases fl with
    | ret u =>
      obtain ⟨v, H', I3, rv, ev, q3⟩ := I2.after hq'
      subst ev
      exact ⟨rv, ⟨V.ref (s.heap.objs.size + 1), H', I3, rfl, q3⟩⟩
    | next => exact False.elim hq'
    | brk => exact False.elim hq'
    | cont => exact False.elim hq'
theorem pe_make (M : Mk X.K C f) (F : FnOk X.prog X.w X.K X.mg X.base CX k f fd ps sp) (hr : Room (k + 1) X.A) (hg : Gl X x) (hm : X.mg x = some (.ref C)) (hb : Binds X.K fd ps ds) (hd : Vals dvs ds) (hx : Passes CX X E)
    (ha : PA X (e :: es) t) (hdb : (x == ("__debug__" : Str)) = false := by decide) (he : starEach (e :: es) X.env = (false, eval e X.env) :: starEach es X.env := by rfl) (hpl : (backTo pos (starEach es X.env)).any (·.1) = false := by rfl) :
    PE X (.Call (.Name x p) (e :: es) [] pos) (tMake C sp dvs E t) := by
  intro pins s σ H Q I h
  refine wpAny_Call_Name_kw (ld_glob I hg hm ?_ hdb)
  refine PySem.W.callWith_K (h₀ := X.base) I.ok.mod.kin M.kp (thn (ha pos pins s σ H _ I h) fun us s1 ⟨vs, H1, I1, r, q⟩ => ⟨I1.kIn, ?_⟩) he hpl
  exact run_make M F hr hb hd hx I1 r q
theorem pe_make0 (M : Mk X.K C f) (F : FnOk X.prog X.w X.K X.mg X.base CX k f fd ps sp) (hr : Room (k + 1) X.A) (hg : Gl X x) (hm : X.mg x = some (.ref C)) (hb : Binds X.K fd ps ds) (hd : Vals dvs ds) (hx : Passes CX X E)
    (hdb : (x == ("__debug__" : Str)) = false := by decide) : PE X (.Call (.Name x p) [] [] pos) (tMake C sp dvs E tNil) := by
  intro pins s σ H Q I h
  refine wpAny_Call_Name_kw (ld_glob I hg hm ?_ hdb)
  exact PySem.W.callWith_K0 I.kIn M.kp (run_make (us := []) M F hr hb hd hx I .nil h)
end
section
variable {X : Cx} {CX : CXT} {k : Nat} {f C : Addr} {fd : FuncData} {ps ks : List Str} {sp : Sp} {E : XK} {x m : Str} {p pos apos kpos : Pos} {e o : Expr} {es : List Expr} {kws : List Keyword} {te ta : TE} {t tk : TA} {nm : Option Str}
structure KBinds (K : PySem.W.Frag) (fd : FuncData) (ps ks : List Str) (g : List Value → List Value → List Value) (gV : List V → List V → List V) : Prop where
  to : ∀ (s : Shared) (us ws : List Value), K.In s.heap → (g us ws).length = ps.length → BindsTo s fd ⟨us, ks.zip ws⟩ (ps.zip (g us ws))
  rel : ∀ {vs : List V} {us : List Value} {zs : List V} {ws : List Value}, Vals vs us → Vals zs ws → Vals (gV vs zs) (g us ws)
variable {g : List Value → List Value → List Value} {gV : List V → List V → List V}
end
structure FnScope (N P : List Str) (sc : Scope) : Prop where
  kind : sc.kind = .function
  co : sc.isCoroutine = false
  gen : sc.isGenerator = false
  nd : N.Nodup
  pre : N.take P.length = P
  par : ∀ x ∈ P, sc.names.lookup x = some .local ∨ sc.names.lookup x = some .cell
  nofree : ∀ y ∈ sc.names, y.2 ≠ .free
theorem bindL_out {kindOf : Str → Option NameKind} {x : Str} : ∀ {binds : List (Str × Value)} {m : Str → Option Value}, (∀ v, (x, v) ∉ binds) → bindL kindOf binds m x = m x
  | [], _, _ => rfl
  | (n, v) :: r, m, h => by
    unfold bindL
    rw [bindL_out fun w hw => h w (List.mem_cons_of_mem _ hw)]
    split
    · have : x ≠ n := by rintro rfl; exact h v List.mem_cons_self
      simp [this]
    · rfl
theorem bindC_out {kindOf : Str → Option NameKind} {x : Str} : ∀ {binds : List (Str × Value)} {m : Str → Option Value}, (∀ v, (x, v) ∉ binds) → bindC kindOf binds m x = m x
  | [], _, _ => rfl
  | (n, v) :: r, m, h => by
    unfold bindC
    rw [bindC_out fun w hw => h w (List.mem_cons_of_mem _ hw)]
    split
    · rfl
    · have : x ≠ n := by rintro rfl; exact h v List.mem_cons_self
      simp [this]
theorem bindL_get {kindOf : Str → Option NameKind} {x : Str} {v : Value} : ∀ {P : List Str} {vs : List Value} {i : Nat} {m : Str → Option Value}, P.Nodup → P[i]? = some x → vs[i]? = some v → kindOf x = some .local →
    bindL kindOf (P.zip vs) m x = some v
  | [], _, _, _, _, h, _, _ => by simp at h
  | _ :: _, [], _, _, _, _, h, _ => by simp at h
  | p :: P, w :: vs, 0, m, nd, h1, h2, hk => by
    simp at h1 h2; subst h1; subst h2
    show bindL kindOf ((p, w) :: P.zip vs) m p = _
    unfold bindL
    rw [bindL_out fun v hv => (List.nodup_cons.mp nd).1 (List.of_mem_zip hv).1, if_pos hk]
    simp
  | p :: P, w :: vs, i + 1, m, nd, h1, h2, hk => by
    show bindL kindOf ((p, w) :: P.zip vs) m x = _
    unfold bindL
    exact bindL_get (i := i) (List.nodup_cons.mp nd).2 (by simpa using h1) (by simpa using h2) hk
theorem bindC_get {kindOf : Str → Option NameKind} {x : Str} {v : Value} : ∀ {P : List Str} {vs : List Value} {i : Nat} {m : Str → Option Value}, P.Nodup → P[i]? = some x → vs[i]? = some v → kindOf x ≠ some .local →
    bindC kindOf (P.zip vs) m x = some v
  | [], _, _, _, _, h, _, _ => by simp at h
  | _ :: _, [], _, _, _, _, h, _ => by simp at h
  | p :: P, w :: vs, 0, m, nd, h1, h2, hk => by
    simp at h1 h2; subst h1; subst h2
    show bindC kindOf ((p, w) :: P.zip vs) m p = _
    unfold bindC
    rw [bindC_out fun v hv => (List.nodup_cons.mp nd).1 (List.of_mem_zip hv).1, if_neg hk]
    simp
  | p :: P, w :: vs, i + 1, m, nd, h1, h2, hk => by
    show bindC kindOf ((p, w) :: P.zip vs) m x = _
    unfold bindC
    exact bindC_get (i := i) (List.nodup_cons.mp nd).2 (by simpa using h1) (by simpa using h2) hk
def start (N : List Str) (vs : List V) : St := vs.map some ++ List.replicate (N.length - vs.length) none
def cxOf (CX : CXT) (P : Program) (w : World) (K : PySem.W.Frag) (mg : Str → Option Value) (base : Heap) (N : List Str) (qual : Str) (scope : Scope) (f : Addr) (cd : Value) (A : Around) (outer : List Env) (s : Shared) (H : Hp) (E : XK) : Cx where
  prog := P
  w := w
  K := K
  mg := mg
  base := base
  A := A.deeper (envOfC qual scope s.heap.objs.size f cd)
  N := N
  s₀ := s
  H₀ := H
  env := envOfC qual scope s.heap.objs.size f cd
  outer := outer
  stack := envOfC qual scope s.heap.objs.size f cd :: outer
  ex := []
  calm := true
  fn := fun _ => true
  pn := []
  xe := fun e s' => wpAny (model P w) (A.deeper (envOfC qual scope s.heap.objs.size f cd)) (leaving (envOfC qual scope s.heap.objs.size f cd) e) (fun _ s'' => CX outer H s E e s'') (fun e' s'' => CX outer H s E e' s'') s'
theorem cell_has {sc : Scope} {n : Nat} {x : Str} (h : sc.names.lookup x = some .cell) : ∃ c, (cellsFrom n sc.names []).lookup x = some c := by
  have q := PySem.W.cellsFrom_some sc.names n [] (.inl h)
  exact Option.isSome_iff_exists.mp q
theorem inv_start {CX : CXT} {P : Program} {w : World} {K : PySem.W.Frag} {mg : Str → Option Value} {base : Heap} {N ps : List Str} {qual : Str} {scope : Scope} {f : Addr} {cd : Value} {A : Around} {outer : List Env} {s s1 : Shared} {H : Hp} {E : XK} {us : List Value} {vs : List V}
    (S : FnScope N ps scope) (hd : A.handled = none) (e0 : Env0 P w K mg base A outer s H) (hl : vs.length = ps.length) (r : Vals vs us)
    (x : InCallC s s.heap.objs.size (bindL (envOfC qual scope s.heap.objs.size f cd).kindOf (ps.zip us) fun _ => none) (cellsFrom (s.heap.objs.size + 1) scope.names []) (bindC (envOfC qual scope s.heap.objs.size f cd).kindOf (ps.zip us) fun _ => none) s1) :
    Inv (cxOf CX P w K mg base N qual scope f cd A outer s H E) [] (start N vs) H s1 := by
  have hpl : ps.length ≤ N.length := by have := congrArg List.length S.pre; rw [List.length_take] at this; omega
  obtain ⟨h1, tk, rfl, hk⟩ := x.done
  have noA : ∀ b : Addr, b ∉ (cxOf CX P w K mg base N qual scope f cd A outer s H E).ex := fun b z => absurd (show b ∈ ([] : List Addr) from z) (by simp)
  refine ⟨⟨e0.mod, S.kind, rfl, rfl, Nat.le_refl _, fun y z c h1 h2 => ?_, fun y hy => ?_, fun y c _ h => ?_, fun _ => hd, Around.frames_deeper e0.frames, .inr ⟨rfl, rfl⟩, fun b z => absurd z (noA b), e0.bs, e0.bsz, fun b _ _ => noA b, fun b z => absurd z (noA b), e0.funs, e0.frf⟩,
    rfl, e0.bare, Un.kept hk, ⟨_, x.toInCall.ns, fun i y v h1 h2 h3 => ?_⟩, fun y c h => ⟨_, x.cell y c h⟩, e0.hok.fresh (Nat.le_refl _), fun y c h => ?_, fun p hp => absurd (show p ∈ ([] : List (Addr × Obj)) from hp) (by simp), e0.hok.kept hk, ?_⟩
  · exact name_of_addr x.apart (PySem.mem_of_lookup h1) (PySem.mem_of_lookup h2)
  · have hy : scope.names.lookup y = some .cell ∨ scope.names.lookup y = some .free := hy
    rcases hy with hy | hy
    · exact cell_has hy
    · exact absurd rfl (S.nofree _ (PySem.mem_of_lookup hy))
  · exact Nat.le_of_lt (x.above y c (PySem.mem_of_lookup h))
  · have hi : i < vs.length := by
      unfold start at h2
      by_cases hi : i < vs.length
      · exact hi
      · rw [List.getElem?_append_right (by simpa using hi)] at h2
        rw [List.getElem?_replicate] at h2
        split at h2 <;> cases h2
    have ha : vs[i]? = some v := by
      unfold start at h2
      rw [List.getElem?_append_left (by simpa using hi), List.getElem?_map] at h2
      cases e : vs[i]? with
      | none => rw [e] at h2; cases h2
      | some a => rw [e] at h2; cases h2; rfl
    obtain ⟨u, hu, rv⟩ := r.get ha
    have hp : ps[i]? = some y := by
      rw [← S.pre, List.getElem?_take_of_lt (by omega)]; exact h1
    have ndP : ps.Nodup := by rw [← S.pre]; exact S.nd.sublist (List.take_sublist _ _)
    refine ⟨u, rv, ?_⟩
    rcases S.par y (List.mem_of_getElem? hp) with k | k
    · exact .inl ⟨k, bindL_get ndP hp hu k⟩
    · obtain ⟨c, e⟩ := cell_has (n := s.heap.objs.size + 1) k
      refine .inr ⟨.inl k, c, e, ?_⟩
      have q := x.cell y c e
      rw [bindC_get ndP hp hu (by show scope.names.lookup y ≠ _; rw [k]; decide)] at q
      exact q
  · exact e0.hok.fresh (Nat.le_of_lt (x.above y c (PySem.mem_of_lookup h)))
  · unfold start
    show _ = N.length
    rw [List.length_append, List.length_map, List.length_replicate]
    omega
theorem fn_of {CX : CXT} {P : Program} {w : World} {K : PySem.W.Frag} {mg : Str → Option Value} {base : Heap} {k : Nat} {f : Addr} {name qual : Str} {params : Arguments} {body : List Stmt} {scope : Scope} {dV kV doc pm cdv ct oc : Value} {an od : Option Addr}
    {osl : Array (Option Value)} {N ps : List Str} {sp : Sp} (lk : K.lookup f = some ⟨oc, od, .func (PySem.W.fnOf name qual params body scope dV kV doc pm an cdv ct), osl⟩) (hcd : PySem.W.codeIn K cdv qual = true) (S : FnScope N ps scope)
    (len : ∀ vs H Q E, sp vs H Q E → vs.length = ps.length)
    (hbody : ∀ (A : Around) (outer : List Env) (s : Shared) (H : Hp) (vs : List V) (Q : VK) (E : XK), Room k (A.deeper (envOfC qual scope s.heap.objs.size f cdv)) → sp vs H Q E →
      ∃ t, PSs (cxOf CX P w K mg base N qual scope f cdv A outer s H E) body t ∧ t { nx := fun _ H' => Q .non H', rt := Q } (start N vs) H) :
    FnOk P w K mg base CX (k + 1) f (PySem.W.fnOf name qual params body scope dV kV doc pm an cdv ct) ps sp := by
  refine ⟨len, fun A outer s H args us vs Q E hr e0 hb r hsp => ?_⟩
  have hl := len _ _ _ _ hsp
  have KX : K.In s.heap := e0.mod.kin.keeps fun b o e => (e0.bs b o e).1
  have lim : s.heap.NoLimit := e0.mod.nolimit.keeps fun b o e => (e0.bs b o e).1
  have hkind : ∀ y ∈ ps.zip us, scope.names.lookup y.1 = some .local ∨ (scope.names.lookup y.1 = some .cell ∧ ((cellsFrom (s.heap.objs.size + 1) scope.names []).lookup y.1).isSome = true) := fun ⟨n, v⟩ hy => by
    rcases S.par n (List.of_mem_zip hy).1 with q | q
    · exact .inl q
    · exact .inr ⟨q, PySem.W.cellsFrom_some _ _ _ (.inl q)⟩
  refine codeAny_call_function hr.depth (KX _ _ lk) rfl S.co S.gen rfl (PySem.W.codeRec_of KX hcd) (hb _ _ _ _ ?_)
  refine wpAny_newFunctionEnv_cells S.kind hkind fun env he s1 x => ?_
  subst he
  refine ⟨lim.keeps x.toInCall.keep, codeAny_func ?_⟩
  obtain ⟨t, ht, hq⟩ := hbody A outer s H vs Q E (hr.deeper _) hsp
  have I : Inv (cxOf CX P w K mg base N qual scope f cdv A outer s H E) [] (start N vs) H s1 := inv_start S hr.hd e0 hl r x
  refine wpAny_mono (ht [] s1 (start N vs) H _ I hq) (fun fl s' hs => ?_) fun e s' hs => hs
  have fin : ∀ {σ' : St} {H' : Hp} {v : V} {u : Value}, Inv (cxOf CX P w K mg base N qual scope f cdv A outer s H E) [] σ' H' s' → RelV v u → Q v H' → CE outer P w H s Q u s' :=
    fun {σ' H' v u} J rv q => ⟨v, H', J.os, J.bare, J.base, J.hok, rv, q⟩
  cases fl with
  | ret u =>
    obtain ⟨v, σ', H', J, rv, q⟩ := hs
    exact fin J rv q
  | next =>
    obtain ⟨σ', H', J, q⟩ := hs
    exact fin (v := V.non) (u := Value.none) J rfl q
  | brk =>
    obtain ⟨_, _, _, q⟩ := hs
    exact False.elim q
  | cont =>
    obtain ⟨_, _, _, q⟩ := hs
    exact False.elim q
end L2
namespace L2
open PySem PySem.Spec PyProof.Rows
section
variable {X : Cx} {x : Str} {p pos : Pos} {e : Expr} {es : List Expr} {t : TA} {id T : String} {r : List V → Hp → VK → Prop}
def tCB (r : List V → Hp → VK → Prop) (t : TA) : TE := fun σ H Q => t σ H fun vs H1 => r vs H1 Q
theorem pe_callB (hc : CallR X (.builtin id) r) (hg : Gl X x) (hm : X.mg x = none) (hv : bootBuiltins x = some (.builtin id)) (ha : PA X (e :: es) t) (hn : x ≠ "__name__" := by decide) (hdb : (x == ("__debug__" : Str)) = false := by decide)
    (he : starEach (e :: es) X.env = (false, eval e X.env) :: starEach es X.env := by rfl) (hpl : (backTo pos (starEach es X.env)).any (·.1) = false := by rfl) : PE X (.Call (.Name x p) (e :: es) [] pos) (tCB r t) := by
  intro pins s σ H Q I h
  refine wpAny_Call_Name_kw (ld_blt I hg hm hv ?_ hn hdb)
  exact PyProof.Rows.callWith_builtin1 (thn (ha pos pins s σ H _ I h) fun us s1 ⟨vs, H1, I1, r1, q1⟩ => hc pins s1 σ H1 vs us Q I1 r1 q1) he hpl
theorem pe_callTy (hc : CallR X (.type T) r) (hg : Gl X x) (hm : X.mg x = none) (hv : bootBuiltins x = some (.type T)) (ha : PA X (e :: es) t) (hn : x ≠ "__name__" := by decide) (hdb : (x == ("__debug__" : Str)) = false := by decide)
    (he : starEach (e :: es) X.env = (false, eval e X.env) :: starEach es X.env := by rfl) (hpl : (backTo pos (starEach es X.env)).any (·.1) = false := by rfl) : PE X (.Call (.Name x p) (e :: es) [] pos) (tCB r t) := by
  intro pins s σ H Q I h
  refine wpAny_Call_Name_kw (ld_blt I hg hm hv ?_ hn hdb)
  exact PyProof.Rows.callWith_type1 (thn (ha pos pins s σ H _ I h) fun us s1 ⟨vs, H1, I1, r1, q1⟩ => hc pins s1 σ H1 vs us Q I1 r1 q1) he hpl
end
end L2
namespace HT
open PySem PyProof.Rows
section
open PySem.SeqAt
open PySem.AutoSeq1 (wpAny_loadPart')
open PySem.MeetsSeq PySem.MeetsSeq2 PySem.MeetsSeq3
end
section
variable {prog : Program} {w : World} {A : Around} {E : Value → Shared → Prop} {s : Shared}
theorem cat_tup {t b : Addr} {vs ws : List Value} {Q : Value → Shared → Prop} (ht : IsTup s.heap t vs.toArray) (hb : IsTup s.heap b ws.toArray) (hv : vs ≠ [])
    (h1 : ws = [] → Q (.ref t) s) (h2 : ws ≠ [] → Q (.ref s.heap.objs.size) { s with heap := s.heap.push { cls := .type "tuple", data := .seq (vs ++ ws).toArray } })
    (hsz : vs.length + ws.length ≤ sizeLine) : wpAny (model prog w) A (binaryOp .Add (.ref t) (.ref b)) Q E s := by
  obtain ⟨⟨cls, dd, data, sl⟩, ho, hc, n, hd⟩ := id ht
  obtain ⟨⟨cls2, dd2, data2, sl2⟩, ho2, hc2, n2, hd2⟩ := id hb
  simp only at hc hd hc2 hd2
  subst hc hd hc2 hd2
  have e : vs.toArray ++ ws.toArray = (vs ++ ws).toArray := by simp
  by_cases hw : ws = []
  · exact concat_meets ⟨_, ho, rfl⟩ ⟨_, ho2, rfl⟩ noFill_tuple_add seq_tuple_add PySem.F.slot_tuple_add PySem.F.entry_tuple_add (PySem.F.args_tuple_add_2 _ _)
      (tuple_addW1 t b vs.toArray ws.toArray n n2 dd dd2 sl sl2 (by simpa using hv) (by simp [hw])) ⟨ho, ho2, h1 hw⟩
  · refine concat_meets ⟨_, ho, rfl⟩ ⟨_, ho2, rfl⟩ noFill_tuple_add seq_tuple_add PySem.F.slot_tuple_add PySem.F.entry_tuple_add (PySem.F.args_tuple_add_2 _ _)
      (tuple_addW2 t b vs.toArray ws.toArray n n2 dd dd2 sl sl2 (by simpa using hv) (by simpa using hw) (by rw [List.size_toArray, List.size_toArray]; exact hsz)) ⟨ho, ho2, ?_⟩
    rw [e]
    exact h2 hw
def sIx (n d : Nat) : Option Int → Nat
  | none => d
  | some v => if v < 0 then (v + (n : Int)).toNat else min v.toNat n
theorem sIx_none (n d : Nat) : sIx n d none = d := rfl
theorem sIx_nat (n d k : Nat) : sIx n d (some (k : Int)) = min k n := by
  show (if (k : Int) < 0 then ((k : Int) + (n : Int)).toNat else min (k : Int).toNat n) = min k n
  rw [if_neg (by omega), Int.toNat_natCast]
theorem sIx_le (n d : Nat) (hd : d ≤ n) (o : Option Int) : sIx n d o ≤ n := by
  cases o with
  | none => exact hd
  | some v =>
    show (if v < 0 then (v + (n : Int)).toNat else min v.toNat n) ≤ n
    by_cases hv : v < 0
    · rw [if_pos hv]; omega
    · rw [if_neg hv]; exact Nat.min_le_right _ _
theorem clip_eq (v : Int) (n d : Nat) : (if v < 0 then max (v + (n : Int)) 0 else min v (n : Int)) = ((sIx n d (some v) : Nat) : Int) := by
  show (if v < 0 then max (v + (n : Int)) 0 else min v (n : Int)) = (((if v < 0 then (v + (n : Int)).toNat else min v.toNat n) : Nat) : Int)
  by_cases hv : v < 0
  · simp only [if_pos hv]; omega
  · simp only [if_neg hv]; omega
theorem adjust_gen (lo hi : Option Int) (n : Nat) : Builtin.Slice.sliceAdjust lo hi 1 (n : Int) = (((sIx n 0 lo : Nat) : Int), ((sIx n n hi : Nat) : Int)) := by
  have h1 : ¬ ((1 : Int) < 0) := by omega
  unfold Builtin.Slice.sliceAdjust
  simp only [h1, if_false]
  refine Prod.ext ?_ ?_
  · cases lo with
    | none => rfl
    | some v => exact clip_eq v n 0
  · cases hi with
    | none => rfl
    | some v => exact clip_eq v n n
theorem places_gen (i j : Nat) : Builtin.Slice.slicePlaces (i : Int) (j : Int) 1 = j - i := by
  unfold Builtin.Slice.slicePlaces
  have h1 : (1 : Int) > 0 := by omega
  simp only [h1, if_true, Int.ediv_one]
  split <;> omega
theorem slicePart_ {v : Value} {o : Option Int} {Q : Option Int → Shared → Prop} (p : IsPart v o) (h : Q o s) : wpAny (model prog w) A (Builtin.Slice.slicePartIndex v) Q E s := by
  cases p with
  | none => exact slicePart_none h
  | int i t => exact slicePart_int h
theorem sliceApplied_gen {sl : Addr} {vl vu : Value} {lo hi : Option Int} {n : Nat} {Q : Int × Int × Nat → Shared → Prop} (hs : s.heap.IsSliceOf sl vl vu .none) (pl : IsPart vl lo) (pu : IsPart vu hi)
    (h : Q (((sIx n 0 lo : Nat) : Int), 1, sIx n n hi - sIx n 0 lo) s) : wpAny (model prog w) A (Builtin.Slice.sliceApplied (.ref sl) (pure (n : Int))) Q E s := by
  obtain ⟨os, hos, hcs, hds⟩ := id hs
  unfold Builtin.Slice.sliceApplied Builtin.Slice.sliceFields
  refine wpAny_bind (wpAny_bind (wpAny_field hos hds (x := vl) rfl (wpAny_bind (wpAny_field hos hds (x := vu) rfl (wpAny_bind (wpAny_field hos hds (x := .none) rfl (wpAny_pure ?_)))))))
  refine wpAny_bind (slicePart_none ?_)
  show wpAny _ _ (if ((1 : Int) == 0) = true then _ else _) _ _ s
  rw [if_neg (by decide)]
  refine wpAny_bind (slicePart_ pl (wpAny_bind (slicePart_ pu (wpAny_bind (wpAny_pure ?_)))))
  show wpAny _ _ (match Builtin.Slice.sliceAdjust lo hi 1 (n : Int) with | (lo, hi) => pure (lo, (1 : Int), Builtin.Slice.slicePlaces lo hi 1)) _ _ s
  rw [adjust_gen lo hi n]
  show wpAny _ _ (pure (((sIx n 0 lo : Nat) : Int), (1 : Int), Builtin.Slice.slicePlaces ((sIx n 0 lo : Nat) : Int) ((sIx n n hi : Nat) : Int) 1)) _ _ s
  rw [places_gen]
  exact wpAny_pure h
theorem pick_gen (xs : Array Value) (i k : Nat) : ((List.range k).filterMap fun (m : Nat) => xs[((i : Int) + (m : Int) * 1).toNat]?).toArray = ((xs.toList.drop i).take k).toArray := by
  have e : (fun (m : Nat) => xs[((i : Int) + (m : Int) * 1).toNat]?) = fun m => xs[i + m]? := by
    funext m
    have : ((i : Int) + (m : Int) * 1).toNat = i + m := by omega
    rw [this]
  rw [e]
  have := pick_run xs i k
  rw [List.filterMap_map] at this
  have e2 : ((fun x => xs[x]?) ∘ fun x => i + x) = fun m => xs[i + m]? := rfl
  rw [e2] at this
  rw [this]
theorem getItem_tuple_cut {t sl : Addr} {items : Array Value} {vl vu : Value} {lo hi : Option Int} {Q : Value → Shared → Prop} (ht : IsTup s.heap t items) (hs : s.heap.IsSliceOf sl vl vu .none) (pl : IsPart vl lo) (pu : IsPart vu hi)
    (hw : ¬ (sIx items.size 0 lo = 0 ∧ sIx items.size items.size hi = items.size))
    (h : Q (.ref s.heap.objs.size) { s with heap := s.heap.push { cls := .type "tuple", data := .seq ((items.toList.drop (sIx items.size 0 lo)).take (sIx items.size items.size hi - sIx items.size 0 lo)).toArray } })
    (hsz : items.size ≤ sizeLine) : wpAny (model prog w) A (getItem (.ref t) (.ref sl)) Q E s := by
  have htake : sizeOk (.seq ((items.toList.drop (sIx items.size 0 lo)).take (sIx items.size items.size hi - sIx items.size 0 lo)).toArray) := by
    show ((items.toList.drop (sIx items.size 0 lo)).take (sIx items.size items.size hi - sIx items.size 0 lo)).toArray.size ≤ sizeLine
    rw [List.size_toArray, List.length_take, List.length_drop, Array.length_toList]
    omega
  have hj : sIx items.size items.size hi ≤ items.size := sIx_le _ _ (Nat.le_refl _) hi
  obtain ⟨os, hos, hcs, hds⟩ := id hs
  have hTs : s.TypeIs (.ref sl) "slice" := ⟨os, hos, hcs⟩
  unfold getItem
  try with_reducible refine wpAny_holding ?_
  first | refine wpAny_bind (wpAny_pure ?_) | skip
  refine wpAny_bind (wpAny_sequenceKey ht.typeIs (by decide) ?_)
  refine wpAny_bind (wpAny_callSpecial?_slot (name := Str.ofString "__getitem__") ht.typeIs PyProof.Rows.slot_tuple_getitem
    (wpAny_call_entry PyProof.Rows.slot_tuple_getitem ht.typeIs entry_tuple_getitem ?_ (args_tuple_getitem _ _)))
  show wpAny _ _ (Builtin.Tuple.tupleItemsOf (.ref t) >>= _) _ _ s
  refine wpAny_bind (tupleItemsOf_ ht ?_)
  refine wpAny_bind (wpAny_typeOf hTs ?_)
  rw [if_pos (by decide)]
  refine wpAny_bind (sliceApplied_gen hs pl pu ?_)
  have hno : ¬ ((((sIx items.size 0 lo : Nat) : Int) == 0 && (1 : Int) == 1 && (sIx items.size items.size hi - sIx items.size 0 lo) == items.size) = true) := by
    intro q
    rw [Bool.and_eq_true, Bool.and_eq_true] at q
    have q1 : ((sIx items.size 0 lo : Nat) : Int) = 0 := eq_of_beq q.1.1
    have q2 : sIx items.size items.size hi - sIx items.size 0 lo = items.size := eq_of_beq q.2
    exact hw ⟨by omega, by omega⟩
  show wpAny _ _ (if (((sIx items.size 0 lo : Nat) : Int) == 0 && (1 : Int) == 1 && (sIx items.size items.size hi - sIx items.size 0 lo) == items.size) = true then _ else _) _ _ s
  rw [if_neg hno, pick_gen]
  first
    | exact wpAny_bind (m := Builtin.Tuple.tupleExact _) (wpAny_newObj_type (wpAny_pure ⟨_, rfl, wpAny_pure h⟩) htake)
    | exact wpAny_bind (m := Builtin.Tuple.tupleExact _) (wpAny_newObj_type (wpAny_bind (wpAny_pure (wpAny_pure ⟨_, rfl, wpAny_pure h⟩))) htake)
    | exact wpAny_bind (wpAny_bind (m := Builtin.Tuple.tupleExact _) (wpAny_newObj_type (wpAny_pure (wpAny_pure ⟨_, rfl, wpAny_pure h⟩)) htake))
    | exact wpAny_bind (wpAny_bind (m := Builtin.Tuple.tupleExact _) (wpAny_newObj_type (wpAny_pure ⟨_, rfl, wpAny_pure h⟩) htake))
end
end HT
namespace L2
open PySem PySem.Spec PyProof.Rows
abbrev TO := St → Hp → (Option Int → Hp → Prop) → Prop
def PO (X : Cx) (e : Option Expr) (t : TO) : Prop :=
  ∀ (pins : List (Addr × Obj)) (s : Shared) (σ : St) (H : Hp) (Q : Option Int → Hp → Prop), Inv X pins σ H s → t σ H Q →
    wpAny (model X.prog X.w) X.A (evalPart e X.env) (fun u s' => ∃ o H', Inv X pins σ H' s' ∧ IsPart u o ∧ Q o H') X.xe s
def tNoPart : TO := fun _ H Q => Q none H
def tPart (t : TE) : TO := fun σ H Q => t σ H fun x H1 => ∃ i, x = .int i ∧ Q (some i) H1
section
variable {X : Cx} {e : Expr} {te : TE} {lo hi : Option Expr} {tl th : TO} {pos p2 : Pos}
theorem po_none : PO X none tNoPart := by
  intro pins s σ H Q I h
  rw [evalPart_none]
  exact wpAny_pure ⟨none, H, I, .none, h⟩
theorem po_some (h : PE X e te) : PO X (some e) (tPart te) := by
  intro pins s σ H Q I hw
  rw [evalPart_some]
  refine thn (h pins s σ H _ I hw) fun u s1 ⟨x, H1, I1, r1, q1⟩ => ?_
  obtain ⟨i, rfl, q⟩ := q1
  obtain ⟨t, rfl⟩ := r1
  exact ⟨some i, H1, I1, .int i t, q⟩
def SlR (X : Cx) (r : V → Option Int → Option Int → Hp → VK → Prop) : Prop :=
  ∀ (pins : List (Addr × Obj)) (s : Shared) (σ : St) (H : Hp) (x : V) (v vl vu : Value) (lo hi : Option Int) (sl : Addr) (Q : VK), Inv X pins σ H s → RelV x v → s.heap.IsSliceOf sl vl vu .none → IsPart vl lo → IsPart vu hi → r x lo hi H Q →
    ∃ T id, typeLookup (.type T) "__getitem__" = pure (some (.builtin id)) ∧ s.TypeIs v T ∧ wpAny (model X.prog X.w) X.A (getItem v (.ref sl)) (EP X pins σ Q) X.xe s
theorem SlR.or {r r' : V → Option Int → Option Int → Hp → VK → Prop} (h : SlR X r) (h' : SlR X r') : SlR X (fun x lo hi H Q => r x lo hi H Q ∨ r' x lo hi H Q) := by
  intro pins s σ H x v vl vu lo hi sl Q I rx hs pl pu q
  rcases q with q | q
  · exact h pins s σ H x v vl vu lo hi sl Q I rx hs pl pu q
  · exact h' pins s σ H x v vl vu lo hi sl Q I rx hs pl pu q
def tSl (r : V → Option Int → Option Int → Hp → VK → Prop) (te : TE) (tl th : TO) : TE := fun σ H Q => te σ H fun x H1 => tl σ H1 fun l H2 => th σ H2 fun u H3 => r x l u H3 Q
theorem pe_slice {r : V → Option Int → Option Int → Hp → VK → Prop} (hr : SlR X r) (he : PE X e te) (hl : PO X lo tl) (hu : PO X hi th) : PE X (.Subscript e (.Slice lo hi none p2) pos) (tSl r te tl th) := by
  intro pins s σ H Q I h
  refine Subscript_ (thn (he pins s σ H _ I h) fun v s1 ⟨x, H1, I1, r1, q1⟩ => ?_)
  refine wpAny_Slice (thn (hl pins s1 σ H1 _ I1 q1) fun vl s2 ⟨l, H2, I2, pl, q2⟩ => thn (hu pins s2 σ H2 _ I2 q2) fun vu s3 ⟨u, H3, I3, pu, q3⟩ => ?_)
  rw [evalPart_none]
  refine wpAny_pure ?_
  have I4 : Inv X pins σ H3 { s3 with heap := s3.heap.push { cls := .type "slice", data := .fields #[vl, vu, .none] } } := I3.kept (t' := s3.toks) fun b ob q => Heap.get?_push_of_some _ q
  obtain ⟨T, id, hT, ht, hg⟩ := hr pins { s3 with heap := s3.heap.push { cls := .type "slice", data := .fields #[vl, vu, .none] } } σ H3 x v vl vu l u s3.heap.objs.size Q I4 r1 (Heap.IsSliceOf.new ..) pl pu q3
  show wpAny (model X.prog X.w) X.A (subscriptTail e (.Slice lo hi none p2) v (.ref s3.heap.objs.size)) (EP X pins σ Q) X.xe { s3 with heap := s3.heap.push { cls := .type "slice", data := .fields #[vl, vu, .none] } }
  exact tail_any (ops := [.ref s3.heap.objs.size, v]) ht hT hg (by with_unfolding_all rfl)
def cutV (xs : List V) (lo hi : Option Int) : List V := (xs.drop (HT.sIx xs.length 0 lo)).take (HT.sIx xs.length xs.length hi - HT.sIx xs.length 0 lo)
theorem cutV_length (xs : List V) (lo hi : Option Int) : (cutV xs lo hi).length ≤ xs.length := by
  unfold cutV
  rw [List.length_take, List.length_drop]
  omega
def rSlT (K : PySem.W.Frag) : V → Option Int → Option Int → Hp → VK → Prop := fun x lo hi H Q => ∃ a xs, x = .ref a ∧ SqT K H a xs ∧
  ¬ (HT.sIx xs.length 0 lo = 0 ∧ HT.sIx xs.length xs.length hi = xs.length) ∧ ∀ p, H p = none → Q (.ref p) (upd H p (.tup (cutV xs lo hi)))
theorem sl_tup : SlR X (rSlT X.K) := by
  intro pins s σ H x v vl vu lo hi sl Q I rx hs pl pu h
  obtain ⟨a, xs, rfl, hx, hw, q⟩ := h
  cases rx
  obtain ⟨its, r, ht, hz⟩ := I.tuple hx
  have hlen : its.toArray.size = xs.length := by rw [List.size_toArray]; exact r.length.symm
  refine ⟨"tuple", _, PyProof.Rows.slot_tuple_getitem.lookup, ht.typeIs, ?_⟩
  refine HT.getItem_tuple_cut ht hs pl pu (by rw [hlen]; exact hw) ?_ (by rw [hlen]; exact hz)
  rw [hlen]
  refine ⟨.ref s.heap.objs.size, _, I.laid (t' := s.toks) (o := .tup (cutV xs lo hi)) (fun b ob q => Heap.get?_push_of_some _ q) (Nat.le_refl _) ?_, rfl, q _ (I.hok.fresh (Nat.le_refl _))⟩
  exact ⟨Nat.le_trans (cutV_length xs lo hi) hz, _, (r.drop (HT.sIx xs.length 0 lo)).take (HT.sIx xs.length xs.length hi - HT.sIx xs.length 0 lo), IsTup.new _ _⟩
def rCatT (K : PySem.W.Frag) : R2 := fun x y H Q => ∃ a b xs ys, x = .ref a ∧ y = .ref b ∧ SqT K H a xs ∧ SqT K H b ys ∧ xs ≠ [] ∧ xs.length + ys.length ≤ sizeLine ∧
  (ys = [] → Q (.ref a) H) ∧ (ys ≠ [] → ∀ p, H p = none → Q (.ref p) (upd H p (.tup (xs ++ ys))))
theorem Vals.nil_iff {xs : List V} {us : List Value} (r : Vals xs us) : us = [] ↔ xs = [] := by
  cases r with
  | nil => simp
  | cons _ _ => simp
theorem op_catT : OpR X (binaryOp .Add) (rCatT X.K) := by
  intro pins s σ H x y v u Q I rx ry h
  obtain ⟨a, b, xs, ys, rfl, rfl, ha, hb, hx, hz, q1, q2⟩ := h
  cases rx
  cases ry
  obtain ⟨its, r1, p1, _⟩ := I.tuple ha
  obtain ⟨its2, r2, p2, _⟩ := I.tuple hb
  refine HT.cat_tup p1 p2 (fun z => hx (r1.nil_iff.mp z)) (fun z => ⟨.ref a, H, I, rfl, q1 (r2.nil_iff.mp z)⟩) (fun z => ?_) (by rw [← r1.length, ← r2.length]; exact hz)
  refine ⟨.ref s.heap.objs.size, _, I.laid (t' := s.toks) (o := .tup (xs ++ ys)) (fun b ob q => Heap.get?_push_of_some _ q) (Nat.le_refl _) ?_, rfl, q2 (fun w => z (r2.nil_iff.mpr w)) _ (I.hok.fresh (Nat.le_refl _))⟩
  exact ⟨by rw [List.length_append]; exact hz, _, r1.append r2, IsTup.new _ _⟩
end
end L2
namespace L2
open PySem PySem.Spec PyProof.Rows
def ixN (n : Nat) (i : Int) : Option Nat := if 0 ≤ i then (if i < n then some i.toNat else none) else if -(n : Int) ≤ i then some (i + n).toNat else none
def atI {α : Type} (xs : List α) (i : Int) : Option α := (ixN xs.length i).bind fun j => xs[j]?
theorem ixN_seq {n : Nat} {i : Int} {j : Nat} (h : ixN n i = some j) : seqIndex? i n = some j ∧ j < n ∧ -(n : Int) ≤ i ∧ i < n := by
  unfold ixN at h
  by_cases h0 : 0 ≤ i
  · rw [if_pos h0] at h
    by_cases h1 : i < n
    · rw [if_pos h1] at h
      have e : i.toNat = j := Option.some.inj h
      exact ⟨by rw [seqIndex_of h0 h1, e], by omega, by omega, h1⟩
    · rw [if_neg h1] at h; cases h
  · rw [if_neg h0] at h
    by_cases h1 : -(n : Int) ≤ i
    · rw [if_pos h1] at h
      have e : (i + n).toNat = j := Option.some.inj h
      exact ⟨by rw [seqIndex_neg (by omega) h1, e], by omega, h1, by omega⟩
    · rw [if_neg h1] at h; cases h
theorem atI_get {α : Type} {xs : List α} {i : Int} {v : α} (h : atI xs i = some v) : ∃ j, seqIndex? i xs.length = some j ∧ xs[j]? = some v ∧ j < xs.length ∧ -(xs.length : Int) ≤ i ∧ i < xs.length := by
  unfold atI at h
  cases e : ixN xs.length i with
  | none => rw [e] at h; cases h
  | some j =>
    rw [e] at h
    obtain ⟨h1, h2, h3, h4⟩ := ixN_seq e
    exact ⟨j, h1, h, h2, h3, h4⟩
theorem atI_nat {α : Type} {xs : List α} {j : Nat} {v : α} (h : xs[j]? = some v) : atI xs (j : Int) = some v := by
  have hj : j < xs.length := (List.getElem?_eq_some_iff.mp h).1
  have e : ixN xs.length (j : Int) = some j := by
    unfold ixN
    rw [if_pos (by omega), if_pos (by omega)]; simp
  unfold atI; rw [e]; exact h
def PlainIx (b : Expr) : Prop := ∀ o i, subscripted b false o i = operate [o, i] (getItem o i)
def IxR (X : Cx) (r : R2) : Prop :=
  ∀ (value slice : Expr) (pins : List (Addr × Obj)) (s : Shared) (σ : St) (H : Hp) (x y : V) (v u : Value) (Q : VK), Inv X pins σ H s → RelV x v → RelV y u → r x y H Q →
    subscripted slice false v u = operate [v, u] (getItem v u) → wpAny (model X.prog X.w) X.A (subscriptTail value slice v u) (EP X pins σ Q) X.xe s
def MtR (X : Cx) (id : String) (r : V → List V → Hp → VK → Prop) : Prop :=
  ∀ (pins : List (Addr × Obj)) (s : Shared) (σ : St) (H : Hp) (x : V) (xs : List V) (v : Value) (us : List Value) (Q : VK), Inv X pins σ H s → RelV x v → Vals xs us → r x xs H Q →
    wpAny (model X.prog X.w) X.A (call (.builtin id) (v :: us)) (EP X pins σ Q) X.xe s
section
variable {X : Cx} {a b : Expr} {ta tb : TE} {pos : Pos}
theorem IxR.or {r r' : R2} (h : IxR X r) (h' : IxR X r') : IxR X (fun x y H Q => r x y H Q ∨ r' x y H Q) := by
  intro value slice pins s σ H x y v u Q I rx ry q hs
  rcases q with q | q
  · exact h value slice pins s σ H x y v u Q I rx ry q hs
  · exact h' value slice pins s σ H x y v u Q I rx ry q hs
theorem MtR.or {id : String} {r r' : V → List V → Hp → VK → Prop} (h : MtR X id r) (h' : MtR X id r') : MtR X id (fun x xs H Q => r x xs H Q ∨ r' x xs H Q) := by
  intro pins s σ H x xs v us Q I rx rs q
  rcases q with q | q
  · exact h pins s σ H x xs v us Q I rx rs q
  · exact h' pins s σ H x xs v us Q I rx rs q
theorem pe_ix {r : R2} (hr : IxR X r) (ha : PE X a ta) (hb : PE X b tb) (hs : PlainIx b) : PE X (.Subscript a b pos) (tOp r ta tb) := by
  intro pins s σ H Q I h
  exact Subscript_ (binT ha hb I h fun v u s2 x y H2 I2 rx ry q => hr a b pins s2 σ H2 x y v u Q I2 rx ry q (hs _ _))
def rIxL (K : PySem.W.Frag) : R2 := fun x y H Q => ∃ p xs i v, x = .ref p ∧ y = .int i ∧ SqL K H p xs ∧ atI xs i = some v ∧ Q v H
def rIxT (K : PySem.W.Frag) : R2 := fun x y H Q => ∃ p xs i v, x = .ref p ∧ y = .int i ∧ SqT K H p xs ∧ atI xs i = some v ∧ Q v H
def rIxS : R2 := fun x y H Q => ∃ z i c, x = .str z ∧ y = .int i ∧ z.length ≤ sizeLine ∧ atI z.cps.toList i = some c ∧ Q (.str ⟨#[c]⟩) H
theorem ix_list : IxR X (rIxL X.K) := by
  intro value slice pins s σ H x y v u Q I rx ry h hs
  obtain ⟨p, xs, i, z, rfl, rfl, hq, he, q⟩ := h
  cases rx
  obtain ⟨t, rfl⟩ := ry
  obtain ⟨its, r, pl, hz⟩ := I.list hq
  obtain ⟨j, h1, h2, h3, h4, h5⟩ := atI_get he
  obtain ⟨w, ew, rw'⟩ := r.get h2
  have hl := r.length
  have hn := line63
  have fin : EP X pins σ Q w s := ⟨z, H, I, rw', q⟩
  by_cases h0 : 0 ≤ i
  · have hj : i.toNat = j := by
      rw [seqIndex_of h0 h5] at h1
      exact Option.some.inj h1
    exact item_listR pl.isList h0 (by omega) (by rw [hj]; simpa using ew) fin hs
  · have hj : (i + (its.toArray.size : Int)).toNat = j := by
      rw [seqIndex_neg (by omega) h4] at h1
      rw [List.size_toArray, ← hl]
      exact Option.some.inj h1
    exact subscriptTail_builtinR (x := w) pl.isList.typeIs slot_list_getitem.lookup
      (wpAny_getItem_list_neg (Q := fun r s' => r = w ∧ EP X pins σ Q r s') pl.isList (by omega) (by rw [List.size_toArray] <;> omega) (by omega) (by rw [hj]; simpa using ew) ⟨rfl, fin⟩) hs
theorem ix_tup : IxR X (rIxT X.K) := by
  intro value slice pins s σ H x y v u Q I rx ry h hs
  obtain ⟨p, xs, i, z, rfl, rfl, hq, he, q⟩ := h
  cases rx
  obtain ⟨t, rfl⟩ := ry
  obtain ⟨its, r, pl, hz⟩ := I.tuple hq
  obtain ⟨j, h1, h2, h3, h4, h5⟩ := atI_get he
  obtain ⟨w, ew, rw'⟩ := r.get h2
  have hl := r.length
  have hn := line63
  have fin : EP X pins σ Q w s := ⟨z, H, I, rw', q⟩
  exact subscriptTail_builtinR (x := w) pl.typeIs slot_tuple_getitem.lookup
    (getItem_tuple (j := j) (Q := fun r s' => r = w ∧ EP X pins σ Q r s') pl (by omega) (by omega) (by rw [List.size_toArray, ← hl]; exact h1) (by simpa using ew) ⟨rfl, fin⟩) hs
theorem ix_str : IxR X rIxS := by
  intro value slice pins s σ H x y v u Q I rx ry h hs
  obtain ⟨z, i, c, rfl, rfl, hz, he, q⟩ := h
  obtain ⟨t, rfl⟩ := rx
  obtain ⟨t', rfl⟩ := ry
  obtain ⟨j, h1, h2, h3, h4, h5⟩ := atI_get he
  have hl : z.cps.toList.length = z.length := by simp [Str.length]
  rw [hl] at h1 h4 h5
  have hn := line63
  exact tail_any (typeIs_str s z t) slot_str_getitem.lookup (getItem_str (c := c) (by
    have e1 : decide (i < -(2 ^ 63 : Int)) = false := decide_eq_false (by omega)
    have e2 : decide (i ≥ 2 ^ 63) = false := decide_eq_false (by omega)
    rw [e1, e2, Bool.or_false]) (by rw [h1]; simpa using h2) ⟨.str ⟨#[c]⟩, H, I.tok _, ⟨_, rfl⟩, q⟩) hs
def rIx (K : PySem.W.Frag) : R2 := fun x y H Q => rIxL K x y H Q ∨ rIxT K x y H Q ∨ rIxS x y H Q
theorem ix_seq : IxR X (rIx X.K) := ix_list.or (ix_tup.or ix_str)
theorem Inv.lst {pins : List (Addr × Obj)} {σ : St} {H : Hp} {s : Shared} {p : Addr} {xs : List V} (I : Inv X pins σ H s) (h : H p = some (.lst xs)) :
    ∃ (its : List Value) (n : Nat), Vals xs its ∧ s.heap.get? p = some { cls := .type "list", data := .seq its.toArray n } ∧ xs.length ≤ sizeLine := by
  obtain ⟨z, its, n, r, e⟩ := I.hok p _ h
  exact ⟨its, n, r, e, z⟩
theorem slice_bounds (lo hi : Option Int) (n : Nat) : (sliceBounds lo hi none n).1 = ((HT.sIx n 0 lo : Nat) : Int) ∧ (sliceBounds lo hi none n).2.1 = ((HT.sIx n n hi : Nat) : Int) ∧ (sliceBounds lo hi none n).2.2 = 1 := by
  refine ⟨?_, ?_, rfl⟩
  · cases lo with
    | none => simp [sliceBounds, HT.sIx]
    | some i =>
      simp only [sliceBounds, HT.sIx, Option.getD_none, show (1 : Int) > 0 by decide, if_true]
      by_cases h : i < 0
      · simp only [h, if_true] <;> omega
      · simp only [h, if_false] <;> omega
  · cases hi with
    | none => simp [sliceBounds, HT.sIx]
    | some i =>
      simp only [sliceBounds, HT.sIx, Option.getD_none, show (1 : Int) > 0 by decide, if_true]
      by_cases h : i < 0
      · simp only [h, if_true] <;> omega
      · simp only [h, if_false] <;> omega
theorem slicePick_cut (its : List Value) (lo hi : Option Int) : slicePick its.toArray lo hi none = ((its.drop (HT.sIx its.length 0 lo)).take (HT.sIx its.length its.length hi - HT.sIx its.length 0 lo)).toArray := by
  obtain ⟨h1, h2, h3⟩ := slice_bounds lo hi its.toArray.size
  unfold slicePick
  rw [h1, h2, h3]
  simp only [sliceRange_one, pick_run, List.size_toArray] <;> rfl
def rSlL (K : PySem.W.Frag) : V → Option Int → Option Int → Hp → VK → Prop := fun x lo hi H Q => ∃ a xs, x = .ref a ∧ SqL K H a xs ∧ ∀ p, H p = none → Q (.ref p) (upd H p (.lst (cutV xs lo hi)))
theorem sl_list : SlR X (rSlL X.K) := by
  intro pins s σ H x v vl vu lo hi sl Q I rx hs pl pu h
  obtain ⟨a, xs, rfl, hx, q⟩ := h
  cases rx
  obtain ⟨its, r, ht, hz⟩ := I.list hx
  have hlen := r.length
  refine ⟨"list", _, slot_list_getitem.lookup, ht.isList.typeIs, ?_⟩
  refine wpAny_getItem_list_slice ht.isList hs pl pu .none (by simp) ?_ (by rw [List.size_toArray] <;> omega)
  rw [slicePick_cut, ← hlen]
  refine ⟨.ref s.heap.objs.size, _, I.laid (t' := s.toks) (o := .lst (cutV xs lo hi)) (fun b ob q => Heap.get?_push_of_some _ q) (Nat.le_refl _) ?_, rfl, q _ (I.hok.fresh (Nat.le_refl _))⟩
  exact ⟨Nat.le_trans (cutV_length xs lo hi) hz, _, 0, (r.drop (HT.sIx xs.length 0 lo)).take (HT.sIx xs.length xs.length hi - HT.sIx xs.length 0 lo), Heap.get?_push_size _ rfl⟩
def flatV : V → Bool
  | .non => true
  | .bl _ => true
  | .int _ => true
  | .str _ => true
  | _ => false
def eqV : V → V → Bool
  | .non, .non => true
  | .bl a, .bl b => a == b
  | .bl a, .int b => (if a then 1 else 0) == b
  | .int a, .bl b => a == (if b then 1 else 0)
  | .int a, .int b => a == b
  | .str a, .str b => a == b
  | _, _ => false
theorem eqAt_V {A : Around} {s : Shared} {y x : V} {u v : Value} (ry : RelV y u) (rx : RelV x v) (fy : flatV y = true) (fx : flatV x = true) : SeqAt.EqAt A s u v (eqV y x) := by
  cases y with
  | non =>
    cases ry
    cases x with
    | non => cases rx; exact SeqAt.EqAt.same _
    | bl b => cases rx; exact SeqAt.EqAt.none_bool b
    | int b => obtain ⟨t, rfl⟩ := rx; exact SeqAt.EqAt.none_int b t
    | str b => obtain ⟨t, rfl⟩ := rx; exact SeqAt.EqAt.none_str b t
    | _ => exact absurd (show false = true from fx) Bool.false_ne_true
  | bl a =>
    cases ry
    cases x with
    | non => cases rx; exact SeqAt.EqAt.bool_none a
    | bl b => cases rx; exact SeqAt.EqAt.bool_bool a b
    | int b => obtain ⟨t, rfl⟩ := rx; exact SeqAt.EqAt.bool_int a b t
    | str b => obtain ⟨t, rfl⟩ := rx; exact SeqAt.EqAt.bool_str a b t
    | _ => exact absurd (show false = true from fx) Bool.false_ne_true
  | int a =>
    obtain ⟨t', rfl⟩ := ry
    cases x with
    | non => cases rx; exact SeqAt.EqAt.int_none a t'
    | bl b => cases rx; exact SeqAt.EqAt.int_bool a t' b
    | int b => obtain ⟨t, rfl⟩ := rx; exact SeqAt.EqAt.int_int a t' b t
    | str b => obtain ⟨t, rfl⟩ := rx; exact SeqAt.EqAt.int_str a t' b t
    | _ => exact absurd (show false = true from fx) Bool.false_ne_true
  | str a =>
    obtain ⟨t', rfl⟩ := ry
    cases x with
    | non => cases rx; exact SeqAt.EqAt.str_none a t'
    | bl b => cases rx; exact SeqAt.EqAt.str_bool a t' b
    | int b => obtain ⟨t, rfl⟩ := rx; exact SeqAt.EqAt.str_int a t' b t
    | str b => obtain ⟨t, rfl⟩ := rx; exact SeqAt.EqAt.str_str a t' b t
    | _ => exact absurd (show false = true from fx) Bool.false_ne_true
  | _ => exact absurd (show false = true from fy) Bool.false_ne_true
def eqU (x : V) (u : Value) : Bool := match u with
  | .none => eqV .non x
  | .bool b => eqV (.bl b) x
  | .int i _ => eqV (.int i) x
  | .str z _ => eqV (.str z) x
  | _ => false
theorem eqU_of {x y : V} {u : Value} (r : RelV y u) (f : flatV y = true) : eqU x u = eqV y x := by
  cases y with
  | non => cases r; rfl
  | bl b => cases r; rfl
  | int i => obtain ⟨t, rfl⟩ := r; rfl
  | str z => obtain ⟨t, rfl⟩ := r; rfl
  | _ => exact absurd (show false = true from f) Bool.false_ne_true
theorem any_eqU {x : V} : ∀ {xs : List V} {us : List Value}, Vals xs us → xs.all flatV = true → us.any (eqU x) = xs.any fun y => eqV y x
  | _, _, .nil, _ => rfl
  | y :: xs, u :: us, .cons r t, f => by
    rw [List.all_cons, Bool.and_eq_true] at f
    rw [List.any_cons, List.any_cons, eqU_of r f.1, any_eqU t f.2]
theorem mem_eqAt {A : Around} {s : Shared} {x : V} {v : Value} (rx : RelV x v) (fx : flatV x = true) : ∀ {xs : List V} {us : List Value}, Vals xs us → xs.all flatV = true → ∀ u ∈ us, SeqAt.EqAt A s u v (eqU x u)
  | _, _, .nil, _ => fun u hu => by cases hu
  | y :: xs, u :: us, .cons r t, f => fun u' hu => by
    rw [List.all_cons, Bool.and_eq_true] at f
    rcases List.mem_cons.mp hu with rfl | hu
    · rw [eqU_of r f.1]; exact eqAt_V r rx f.1 fx
    · exact mem_eqAt rx fx t f.2 u' hu
def inV (x : V) (xs : List V) : Bool := xs.any fun y => eqV y x
def rIn (K : PySem.W.Frag) (neg : Bool) : R2 := fun x y H Q => ∃ p xs, y = .ref p ∧ (SqL K H p xs ∨ SqT K H p xs) ∧ flatV x = true ∧ xs.all flatV = true ∧ Q (.bl (if neg then !inV x xs else inV x xs)) H
theorem op_in_seq : OpR X (compareOp .In) (rIn X.K false) := by
  intro pins s σ H x y v u Q I rx ry h
  obtain ⟨p, xs, rfl, hq, fx, fs, q⟩ := h
  cases ry
  rcases hq with hq | hq
  · obtain ⟨its, r, pl, hz⟩ := I.list hq
    refine SeqAt.in_listAt (eqU x) pl.isList (fun w hw => mem_eqAt rx fx r fs w (by simpa using hw)) ⟨.bl _, H, I, rfl, ?_⟩
    rw [show its.toArray.any (eqU x) = its.any (eqU x) by simp, any_eqU r fs]
    exact q
  · obtain ⟨its, r, pl, hz⟩ := I.tuple hq
    refine SeqAt.in_tupleAt (eqU x) pl (fun w hw => mem_eqAt rx fx r fs w (by simpa using hw)) ⟨.bl _, H, I, rfl, ?_⟩
    rw [show its.toArray.any (eqU x) = its.any (eqU x) by simp, any_eqU r fs]
    exact q
theorem op_notIn_seq : OpR X (compareOp .NotIn) (rIn X.K true) := by
  intro pins s σ H x y v u Q I rx ry h
  obtain ⟨p, xs, rfl, hq, fx, fs, q⟩ := h
  cases ry
  rcases hq with hq | hq
  · obtain ⟨its, r, pl, hz⟩ := I.list hq
    refine SeqAt.notIn_listAt (eqU x) pl.isList (fun w hw => mem_eqAt rx fx r fs w (by simpa using hw)) ⟨.bl _, H, I, rfl, ?_⟩
    rw [show its.toArray.any (eqU x) = its.any (eqU x) by simp, any_eqU r fs]
    exact q
  · obtain ⟨its, r, pl, hz⟩ := I.tuple hq
    refine SeqAt.notIn_tupleAt (eqU x) pl (fun w hw => mem_eqAt rx fx r fs w (by simpa using hw)) ⟨.bl _, H, I, rfl, ?_⟩
    rw [show its.toArray.any (eqU x) = its.any (eqU x) by simp, any_eqU r fs]
    exact q
theorem call_len_seq : CallR X (.builtin "len") (fun xs H Q => ∃ p ys, xs = [.ref p] ∧ (SqL X.K H p ys ∨ SqT X.K H p ys) ∧ Q (.int ys.length) H) := by
  intro pins s σ H xs us Q I r h
  obtain ⟨p, ys, rfl, hq, q⟩ := h
  obtain ⟨u, rfl, rx⟩ := vals1 r
  cases rx
  have hn := line63
  rcases hq with hq | hq
  · obtain ⟨its, r', pl, hz⟩ := I.list hq
    have hlen := r'.length
    exact Calls.call_len_list pl.isList (by simp only [List.size_toArray] <;> omega) ⟨.int ys.length, H, I.tok _, ⟨s.toks + 1, by rw [List.size_toArray, hlen]⟩, q⟩
  · obtain ⟨its, r', pl, hz⟩ := I.tuple hq
    have hlen := r'.length
    exact len_tuple pl (by simp only [List.size_toArray] <;> omega) ⟨.int ys.length, H, I.tok _, ⟨s.toks + 1, by rw [List.size_toArray, hlen]⟩, q⟩
theorem call_len_str : CallR X (.builtin "len") (fun xs H Q => ∃ z, xs = [.str z] ∧ z.length ≤ sizeLine ∧ Q (.int z.length) H) := by
  intro pins s σ H xs us Q I r h
  obtain ⟨z, rfl, hz, q⟩ := h
  obtain ⟨u, rfl, t, rfl⟩ := vals1 r
  have hn := line63
  exact len_str (by omega) ⟨.int z.length, H, I.tok _, ⟨_, rfl⟩, q⟩
theorem CallR.or {f : Value} {r r' : List V → Hp → VK → Prop} (h : CallR X f r) (h' : CallR X f r') : CallR X f (fun xs H Q => r xs H Q ∨ r' xs H Q) := by
  intro pins s σ H xs us Q I rs q
  rcases q with q | q
  · exact h pins s σ H xs us Q I rs q
  · exact h' pins s σ H xs us Q I rs q
theorem call_list_of : CallR X (.type "list") (fun xs H Q => ∃ p ys, xs = [.ref p] ∧ (SqL X.K H p ys ∨ SqT X.K H p ys) ∧ ∀ l, H l = none → Q (.ref l) (upd H l (.lst ys))) := by
  intro pins s σ H xs us Q I r h
  obtain ⟨p, ys, rfl, hq, q⟩ := h
  obtain ⟨u, rfl, rx⟩ := vals1 r
  cases rx
  have fin : ∀ (its : List Value), Vals ys its → ys.length ≤ sizeLine → ∀ (h' : Heap) (c' : Nat), (∀ b o', s.heap.get? b = some o' → h'.get? b = some o') →
      h'.get? s.heap.objs.size = some { cls := .type "list", dict := none, data := .seq its.toArray c', slots := #[] } → EP X pins σ Q (.ref s.heap.objs.size) { s with heap := h' } := fun its r' hz h' c' kp e =>
    ⟨.ref s.heap.objs.size, _, I.laid (t' := s.toks) kp (Nat.le_refl _) (show ObjOk X.prog X.w _ h' _ (.lst ys) from ⟨hz, its, c', r', e⟩), rfl, q _ (I.hok.fresh (Nat.le_refl _))⟩
  rcases hq with hq | hq
  · obtain ⟨its, r', pl, hz⟩ := I.list hq
    have hlen := r'.length
    obtain ⟨o, ho, hc, n, hd⟩ := pl.isList
    exact call_list_seq p (.inl rfl) ho hc hd (fun h' c' kp e => fin its r' hz h' c' kp e) (by simp only [List.size_toArray] <;> omega)
  · obtain ⟨its, r', pl, hz⟩ := I.tuple hq
    have hlen := r'.length
    obtain ⟨o, ho, hc, n, hd⟩ := pl
    exact call_list_seq p (.inr rfl) ho hc hd (fun h' c' kp e => fin its r' hz h' c' kp e) (by simp only [List.size_toArray] <;> omega)
theorem call_tuple_of : CallR X (.type "tuple") (fun xs H Q => ∃ p ys, xs = [.ref p] ∧ ((SqL X.K H p ys ∧ ∀ l, H l = none → Q (.ref l) (upd H l (.tup ys))) ∨ (SqT X.K H p ys ∧ Q (.ref p) H))) := by
  intro pins s σ H xs us Q I r h
  obtain ⟨p, ys, rfl, h⟩ := h
  obtain ⟨u, rfl, rx⟩ := vals1 r
  cases rx
  rcases h with ⟨hq, q⟩ | ⟨hq, q⟩
  · obtain ⟨its, r', pl, hz⟩ := I.list hq
    have hlen := r'.length
    refine call_tuple_list pl.isList (fun h' kp => ?_) (by simp only [List.size_toArray] <;> omega)
    have I1 : Inv X pins σ H { s with heap := h' } := I.kept (t' := s.toks) kp
    have I2 : Inv X pins σ (upd H h'.objs.size (.tup ys)) { s with heap := h'.push { cls := .type "tuple", data := .seq its.toArray } } :=
      I1.laid (t' := s.toks) (fun b o e => Heap.get?_push_of_some _ e) (Nat.le_refl _) (show ObjOk X.prog X.w _ _ _ (.tup ys) from ⟨hz, its, r', IsTup.new _ _⟩)
    exact ⟨.ref h'.objs.size, _, I2, rfl, q _ (I1.hok.fresh (Nat.le_refl _))⟩
  · obtain ⟨its, r', pl, hz⟩ := I.tuple hq
    exact call_tuple_same pl ⟨.ref p, H, I, rfl, q⟩
def tyV (K : PySem.W.Frag) (T : String) (x : V) (H : Hp) : Prop := match x with
  | .str _ => T = "str"
  | .int _ => T = "int"
  | .ref p => (T = "list" ∧ ∃ xs, SqL K H p xs) ∨ (T = "tuple" ∧ ∃ o, K.lookup p = some o ∧ o.cls = .type "tuple" ∧ o.dict = none) ∨
      (T = "dict" ∧ ((∃ kvs, H p = some (.dK kvs)) ∨ ∃ kvs, H p = some (.dT kvs))) ∨ (T = "set" ∧ ∃ S n, H p = some (.set S n))
  | _ => False
theorem tyV_is {pins : List (Addr × Obj)} {σ : St} {H : Hp} {s : Shared} {T : String} {x : V} {v : Value} (I : Inv X pins σ H s) (r : RelV x v) (ty : tyV X.K T x H) :
    s.TypeIs v T ∧ ∀ a, v = .ref a → ∃ ob, s.heap.get? a = some ob ∧ ob.dict = none := by
  cases x with
  | str z =>
    obtain ⟨t, rfl⟩ := r
    cases (show T = "str" from ty)
    exact ⟨typeIs_str s z t, fun _ e => nomatch e⟩
  | int i =>
    obtain ⟨t, rfl⟩ := r
    cases (show T = "int" from ty)
    exact ⟨typeIs_int s i t, fun _ e => nomatch e⟩
  | ref p =>
    cases r
    rcases ty with ⟨rfl, xs, hq⟩ | ⟨rfl, o, hk, hc, hd⟩ | ⟨rfl, hk⟩ | ⟨rfl, S, n, hk⟩
    · obtain ⟨its, _, pl, _⟩ := I.list hq
      refine ⟨pl.isList.typeIs, fun a e => ?_⟩
      cases e
      obtain ⟨o, n, e, c, hd, _⟩ := pl
      exact ⟨o, e, hd⟩
    · refine ⟨⟨o, I.kIn p o hk, hc⟩, fun a e => ?_⟩
      cases e
      exact ⟨o, I.kIn _ o hk, hd⟩
    · have z : ∃ o, s.heap.get? p = some o ∧ o.ExactDict := by
        rcases hk with ⟨kvs, hk⟩ | ⟨kvs, hk⟩
        · obtain ⟨_, _, _, _, o, _, _, e, ex, _⟩ := I.hok p _ hk
          exact ⟨o, e, ex⟩
        · obtain ⟨_, _, _, _, o, _, _, e, ex, _⟩ := I.hok p _ hk
          exact ⟨o, e, ex⟩
      obtain ⟨o, e, ex⟩ := z
      refine ⟨⟨o, e, ex.1⟩, fun a e2 => ?_⟩
      cases e2
      exact ⟨o, e, ex.2.1⟩
    · obtain ⟨o, _, _, _, e, ex, _⟩ := I.hok p _ hk
      refine ⟨⟨o, e, ex.1⟩, fun a e2 => ?_⟩
      cases e2
      exact ⟨o, e, ex.2.1⟩
  | _ => exact False.elim ty
def tBM (K : PySem.W.Frag) (T : String) (r : V → List V → Hp → VK → Prop) (to : TE) (t : TA) : TE := fun σ H Q => to σ H fun x H1 => tyV K T x H1 ∧ t σ H1 fun xs H2 => r x xs H2 Q
variable {o e : Expr} {es : List Expr} {to : TE} {t : TA} {name : Str} {apos cpos : Pos} {T id : String} {r : V → List V → Hp → VK → Prop}
theorem pe_bm (pa : PlainAttrs T) (slot : Slot T name id) (hty : typeOf (.builtin id) = pure (.type "method_descriptor")) (hm : MtR X id r) (ho : PE X o to) (ha : PA X (e :: es) t)
    (hbase : attributeBase o name X.env (eval o X.env) = eval o X.env := by rfl)
    (hfew : ((backTo cpos (starEach (e :: es) X.env)).all (fun x => !x.1) && (backToKw cpos (keywordEach [] X.env)).all (fun x => x.1.isSome)
      && decide ((e :: es).length + ([] : List Keyword).length + (if ([] : List Keyword).isEmpty then 0 else 1) < 30)) = true := by rfl)
    (hline : (apos.endLine == cpos.line) = true := by rfl) (hs : starEach (e :: es) X.env = (false, eval e X.env) :: starEach es X.env := by rfl) (hplain : (backTo cpos (starEach es X.env)).any (·.1) = false := by rfl) :
    PE X (.Call (.Attribute o name apos) (e :: es) [] cpos) (tBM X.K T r to t) := by
  intro pins s σ H Q I h
  refine wpAny_Call_method_late hbase hfew hline rfl (thn (ho pins s σ H _ I h) fun v s1 ⟨x, H1, I1, r1, ty, q1⟩ => ?_)
  obtain ⟨h1, h2⟩ := tyV_is I1 r1 ty
  refine ⟨T, id, pa, slot, hty, h1, h2, ?_⟩
  have hA := ha cpos pins s1 σ H1 _ I1 q1
  rw [hs] at hA ⊢
  refine Calls.callWith_builtin (by show (false || (backTo cpos (starEach es X.env)).any (·.1)) = false; rw [hplain] <;> rfl) (Calls.evalArgs_plain ?_)
  exact thn hA fun us s2 ⟨vs, H2, I2, r2, q2⟩ => hm pins s2 σ H2 x vs v us Q I2 r1 r2 q2
end
end L2
namespace L2
open PySem PySem.Spec PyProof.Rows
def MtM (X : Cx) (id : String) (r : V → List V → Hp → VK → Prop) : Prop :=
  ∀ (pins : List (Addr × Obj)) (s : Shared) (σ : St) (H : Hp) (x : V) (xs : List V) (v : Value) (us : List Value) (Q : VK), Inv X pins σ H s → RelV x v → Vals xs us → r x xs H Q →
    wpAny (model X.prog X.w) X.A (call (.builtin id) (v :: us)) (EP X pins σ Q) X.xe s
theorem Vals.one : ∀ {x : V} {us : List Value}, Vals [x] us → ∃ u, us = [u] ∧ RelV x u
  | _, _, .cons r .nil => ⟨_, rfl, r⟩
theorem Vals.two : ∀ {x y : V} {us : List Value}, Vals [x, y] us → ∃ u v, us = [u, v] ∧ RelV x u ∧ RelV y v
  | _, _, _, .cons r (.cons q .nil) => ⟨_, _, rfl, r, q⟩
theorem Vals.zero : ∀ {us : List Value}, Vals [] us → us = []
  | _, .nil => rfl
theorem Vals.rep {xs : List V} {us : List Value} (h : Vals xs us) : ∀ k : Nat, Vals (List.replicate k xs).flatten (List.replicate k us).flatten
  | 0 => .nil
  | k + 1 => by
    rw [List.replicate_succ, List.replicate_succ, List.flatten_cons, List.flatten_cons]
    exact Vals.append h (Vals.rep h k)
theorem foldl_rep (its : List Value) : ∀ (k : Nat) (acc : List Value),
    List.foldl (fun x1 x2 => x1 ++ x2) acc.toArray (List.replicate k its.toArray) = (acc ++ (List.replicate k its).flatten).toArray
  | 0, acc => by simp
  | k + 1, acc => by
    have e : acc.toArray ++ its.toArray = (acc ++ its).toArray := by simp
    have e2 : (acc ++ its) ++ (List.replicate k its).flatten = acc ++ (List.replicate (k + 1) its).flatten := by
      rw [List.replicate_succ, List.flatten_cons, List.append_assoc]
    rw [← e2, ← foldl_rep its k (acc ++ its), ← e, List.replicate_succ, List.foldl_cons]
section
variable {X : Cx} {pins : List (Addr × Obj)} {σ : St} {H : Hp} {s : Shared} {l b : Addr} {xs ys zs : List V}
theorem Inv.lset {its its' : List Value} {n : Nat} {f : Array Value → Array Value} {t' : Nat} (I : Inv X pins σ H s) (hH : H l = some (.lst xs))
    (e : s.heap.get? l = some { cls := .type "list", data := .seq its.toArray n }) (hf : f its.toArray = its'.toArray) (hv : Vals ys its') (hz : ys.length ≤ sizeLine) :
    Inv X pins σ (upd H l (.lst ys)) { s with heap := s.heap.update l (Obj.mapSeq f), toks := t' } := by
  have q := PySem.IsL.update e f
  rw [hf] at q
  refine I.write (x := l) (e := l) (by rw [hH]; exact trivial) (.inl rfl) (fun b' u hb hu => (Heap.get?_update_other s.heap (Obj.mapSeq f) (Ne.symm hb)).trans hu) ⟨_, q⟩ ?_
  exact ⟨hz, its', _, hv, q⟩
theorem Inv.lnew {its : List Value} {t' : Nat} (I : Inv X pins σ H s) (hv : Vals ys its) (hz : ys.length ≤ sizeLine) :
    Inv X pins σ (upd H s.heap.objs.size (.lst ys)) { s with heap := s.heap.push { cls := .type "list", data := .seq its.toArray }, toks := t' } :=
  I.laid (fun _ _ q => Heap.get?_push_of_some _ q) (Nat.le_refl _) ⟨hz, its, 0, hv, Heap.get?_push_size _ rfl⟩
theorem Inv.fresh (I : Inv X pins σ H s) : H s.heap.objs.size = none := I.hok.fresh (Nat.le_refl _)
theorem Inv.lstM (I : Inv X pins σ H s) (hH : H l = some (.lst xs)) : xs.length ≤ sizeLine ∧ ∃ (its : List Value) (n : Nat), Vals xs its ∧ xs.length = its.length ∧ s.heap.get? l = some { cls := .type "list", data := .seq its.toArray n } := by
  obtain ⟨z, its, n, r, e⟩ := I.hok l _ hH
  exact ⟨z, its, n, r, r.length, e⟩
theorem notLongL {n : Nat} (h : n ≤ sizeLine) : Builtin.List.listTooLong n = false := by
  unfold Builtin.List.listTooLong
  exact decide_eq_false (by omega)
end
section
variable {X : Cx}
def rAppend : V → List V → Hp → VK → Prop := fun x vs H Q => ∃ l xs y, x = .ref l ∧ vs = [y] ∧ H l = some (.lst xs) ∧ xs.length < sizeLine ∧ Q .non (upd H l (.lst (xs ++ [y])))
theorem mt_append : MtM X "list.append" rAppend := by
  intro pins s σ H x vs v us Q I rx rv h
  obtain ⟨l, xs, y, rfl, rfl, hH, hz, q⟩ := h
  cases rx
  obtain ⟨u, rfl, ru⟩ := rv.one
  obtain ⟨z, its, n, r, hl, e⟩ := I.lstM hH
  refine call_meets F.slot_list_append ⟨_, e, rfl⟩ F.entry_list_append (F.args_list_append_2 _ _) (PySem.list_append l its.toArray n u (by rw [List.size_toArray]; omega)) ⟨e, ?_⟩
  refine ⟨.non, _, I.lset (its' := its ++ [u]) hH e (by simp) (r.append (.cons ru .nil)) ?_, rfl, q⟩
  rw [List.length_append, List.length_singleton]
  omega
def rCat : R2 := fun x y H Q => ∃ l b xs zs, x = .ref l ∧ y = .ref b ∧ H l = some (.lst xs) ∧ H b = some (.lst zs) ∧ xs.length + zs.length ≤ sizeLine ∧ ∀ p, H p = none → Q (.ref p) (upd H p (.lst (xs ++ zs)))
theorem op_cat : OpR X (binaryOp .Add) rCat := by
  intro pins s σ H x y v u Q I rx ry h
  obtain ⟨l, b, xs, zs, rfl, rfl, hH, hB, hz, q⟩ := h
  cases rx
  cases ry
  obtain ⟨z, its, n, r, hl, e⟩ := I.lstM hH
  obtain ⟨z2, its2, n2, r2, hl2, e2⟩ := I.lstM hB
  refine PySem.P.add_list e e2 ?_ (by rw [List.size_toArray, List.size_toArray]; omega)
  have ea : its.toArray ++ its2.toArray = (its ++ its2).toArray := by simp
  rw [ea]
  exact ⟨.ref _, _, I.lnew (t' := s.toks) (r.append r2) (by rw [List.length_append]; omega), rfl, q _ I.fresh⟩
def rRep : R2 := fun x y H Q => ∃ l k xs, x = .ref l ∧ y = .int k ∧ H l = some (.lst xs) ∧ -(2 ^ 63) ≤ k ∧ k < 2 ^ 63 ∧ xs.length * k.toNat ≤ sizeLine ∧
  ∀ p, H p = none → Q (.ref p) (upd H p (.lst (List.replicate k.toNat xs).flatten))
theorem len_rep {α : Type} (xs : List α) (k : Nat) : (List.replicate k xs).flatten.length = k * xs.length := by
  induction k with
  | zero => simp
  | succ k ih => rw [List.replicate_succ, List.flatten_cons, List.length_append, ih, Nat.succ_mul, Nat.add_comm]
theorem op_rep : OpR X (binaryOp .Mult) rRep := by
  intro pins s σ H x y v u Q I rx ry h
  obtain ⟨l, k, xs, rfl, rfl, hH, h1, h2, hz, q⟩ := h
  cases rx
  obtain ⟨t, rfl⟩ := ry
  obtain ⟨z, its, n, r, hl, e⟩ := I.lstM hH
  have hlen : its.toArray.size * k.toNat ≤ sizeLine := by rw [List.size_toArray, ← hl]; exact hz
  have hcap : ¬ its.toArray.size * k.toNat > (2 ^ 63 - 1) / 8 := by
    have : (sizeLine : Nat) ≤ (2 ^ 63 - 1) / 8 := by decide
    omega
  have hfit : ¬ (!Builtin.List.listFitsIndex k) = true := by
    rw [fitsIndex_both h1 h2]
    exact Bool.false_ne_true
  have hlong : ¬ Builtin.List.listTooLong (its.toArray.size * k.toNat) = true := by
    rw [notLongL hlen]
    exact Bool.false_ne_true
  have hnew : List.foldl (fun x1 x2 => x1 ++ x2) #[] (List.replicate (if its.toArray.isEmpty = true then 0 else k.toNat) its.toArray) = (List.replicate k.toNat its).flatten.toArray := by
    have f0 : ∀ m : Nat, List.foldl (fun x1 x2 => x1 ++ x2) #[] (List.replicate m its.toArray) = (List.replicate m its).flatten.toArray := fun m => by
      have := foldl_rep its m []
      rw [List.nil_append] at this
      exact this
    rw [f0]
    cases its with
    | nil => simp
    | cons a r' => rw [if_neg (by simp)]
  refine wpAny_binaryOp_repeat_ref (T := "list") (U := "int") (by decide) ⟨_, e, rfl⟩ (fun s' => typeIs_int s' k t) noFill_list_mul F.fills_int_mul F.slot_int_rmul repeat_list F.slot_int_index.lookup
    (call_meets F.slot_int_rmul (typeIs_int s k t) F.entry_int_rmul (F.args_int_rmul_2 _ _) (int___rmul___int_list k t l its.toArray n)
      ⟨e, rfl, ⟨_, e, rfl⟩, call_meets F.slot_list_mul ⟨_, e, rfl⟩ F.entry_list_mul (F.args_list_mul_2 _ _) (AutoListH.list___mul___list_int_3 l its.toArray n k t hfit hcap hlong) ⟨e, ?_⟩⟩)
  rw [hnew]
  exact ⟨.ref _, _, I.lnew (t' := s.toks) (r.rep k.toNat) (by rw [len_rep, Nat.mul_comm]; exact hz), rfl, q _ I.fresh⟩
end
section
variable {prog : Program} {w : World} {A : Around} {E : Value → Shared → Prop} {s : Shared}
theorem bounds_run {a c n : Nat} (hac : a ≤ c) (hc : c ≤ n) : sliceBounds (some (a : Int)) (some (c : Int)) none n = ((a : Int), (c : Int), 1) := by
  simp only [sliceBounds, Option.getD_none]
  have h1 : ¬ ((a : Int) < 0) := by omega
  have h2 : ¬ ((c : Int) < 0) := by omega
  simp only [h1, h2, if_false, show (1 : Int) > 0 by decide, if_true]
  congr 1
  · omega
  · congr 1; omega
set_option maxRecDepth 100000 in
theorem setItem_slice {l b sl : Addr} {items new : Array Value} {n n2 : Nat} {vl vu : Value} {a c : Nat} {Q : Unit → Shared → Prop}
    (e : s.heap.get? l = some { cls := .type "list", data := .seq items n }) (e2 : s.heap.get? b = some { cls := .type "list", data := .seq new n2 }) (hne : l ≠ b)
    (hs : s.heap.IsSliceOf sl vl vu .none) (pl : IsPart vl (some (a : Int))) (pu : IsPart vu (some (c : Int))) (hac : a ≤ c) (hc : c ≤ items.size)
    (hsz : items.size + new.size ≤ sizeLine) (h : Q () { s with heap := s.heap.update l (Obj.mapSeq fun xs => xs.extract 0 a ++ new ++ xs.extract c xs.size) }) :
    wpAny (model prog w) A (setItem (.ref l) (.ref sl) (.ref b)) Q E s := by
  have hl : s.heap.IsList l items := PySem.IsL.isList e
  have hb : s.heap.IsList b new := PySem.IsL.isList e2
  obtain ⟨os, hos, hcs, hds⟩ := id hs
  have hTs : s.TypeIs (.ref sl) "slice" := ⟨os, hos, hcs⟩
  have hstep : ¬ ((rawPart none == rawInt 0) = true) := Bool.false_ne_true
  have hsame : Builtin.List.listSameRef (.ref l) (.ref b) = false := by
    unfold Builtin.List.listSameRef
    exact beq_eq_false_iff_ne.mpr hne
  have hmax : (max (a : Int) (c : Int)).toNat = c := by omega
  have hz' : ((fun xs : Array Value => xs.extract 0 a ++ new ++ xs.extract c xs.size) items).size ≤ sizeLine + 1 := by
    simp only [Array.size_append, Array.size_extract]
    omega
  unfold setItem
  try with_reducible refine wpAny_holding ?_
  first | refine wpAny_bind (wpAny_pure ?_) | skip
  refine wpAny_bind (wpAny_sequenceKey hl.typeIs (by decide) ?_)
  refine wpAny_bind (wpAny_callSpecial?_slot (name := Str.ofString "__setitem__") hl.typeIs slot_list_setitem
    (wpAny_call_entry slot_list_setitem hl.typeIs entry_list_setitem ?_ (args_list_setitem _ _ _)))
  show wpAny _ _ (Builtin.List.listSubscript? (.ref sl) >>= _) _ _ s
  refine wpAny_bind ?_
  unfold Builtin.List.listSubscript?
  refine wpAny_bind (wpAny_specialOf hTs slice_no_index ?_)
  simp only [Option.isNone_none, if_true]
  refine wpAny_pure ?_
  show wpAny _ _ (typeOf (.ref sl) >>= _) _ _ s
  refine wpAny_bind (wpAny_typeOf hTs ?_)
  first
    | rw [if_neg (by decide)]
    | refine PySem.W.KFB.if_not (by decide) ?_
  rw [listSliceParts_eq]
  refine wpAny_bind (wpAny_bind (wpAny_field hos hds (x := .none) rfl (wpAny_bind (wpAny_listPart .none ?_))))
  rw [if_neg hstep]
  refine wpAny_bind (wpAny_field hos hds (x := vl) rfl (wpAny_bind (wpAny_listPart pl ?_)))
  refine wpAny_bind (wpAny_field hos hds (x := vu) rfl (wpAny_bind (wpAny_listPart pu (wpAny_pure ?_))))
  first
    | simp only [hsame, Bool.false_eq_true, if_false]
    | refine PySem.W.KFB.if_not hsame ?_
    | (dsimp only
       rw [if_neg (by rw [hsame]; exact Bool.false_ne_true)])
  refine wpAny_bind (m := Builtin.List.listAllItems (.ref b) "must assign iterable to extended slice") ?_
  unfold Builtin.List.listAllItems
  refine wpAny_bind (wpAny_typeOf hb.typeIs ?_)
  first
    | refine PySem.W.KFB.if_so (by decide) ?_
    | rw [if_pos (by decide)]
    | simp only [beq_self_eq_true, Bool.true_or, if_true]
  unfold Builtin.List.listItems
  refine wpAny_bind (wpAny_seqItems e2 rfl (wpAny_pure ?_))
  refine wpAny_bind (wpAny_bind (wpAny_seqItems e rfl (wpAny_pure ?_)))
  refine wpAny_bind (wpAny_of_eq ((sliceIndices_raw (some (a : Int)) (some (c : Int)) none items.size (by simp)).trans (congrArg (pure : Int × Int × Int → Sem (Int × Int × Int)) (bounds_run hac hc))) ?_)
  show wpAny _ _ (if ((1 : Int) == 1) = true then _ else _) _ _ s
  rw [if_pos (by decide)]
  refine wpAny_bind (wpAny_rule ?_)
  first
    | simp only [notLongL hsz, Bool.false_eq_true, if_false]
    | refine PySem.W.KFB.if_not (notLongL hsz) ?_
  first | refine wpAny_bind (wpAny_pure ?_) | skip
  show wpAny _ _ (updateSeq l (fun xs => xs.extract 0 ((a : Int)).toNat ++ new ++ xs.extract (max (a : Int) (c : Int)).toNat xs.size) >>= _) _ _ s
  rw [hmax, Int.toNat_natCast]
  refine wpAny_bind (wpAny_updateSeq (hz := Nat.le_trans (Nat.le_add_right _ _) hsz) (_hz' := hz') e rfl ?_)
  refine wpAny_bind (wpAny_letGo ?_)
  first
    | exact wpAny_bind (wpAny_pure (wpAny_pure ⟨.none, rfl, wpAny_pure h⟩))
    | exact wpAny_pure ⟨.none, rfl, wpAny_pure h⟩
end
section
variable {X : Cx}
end
end L2
namespace Att
open PySem PySem.W PySem.Calls PyProof.Rows
theorem ints_of_wellAll {P : Params} {h : Heap} : ∀ (ns : List Int) (vs : List Value), WellAll P h vs (ns.map WData.int) → IntsAre vs ns := by
  intro ns
  induction ns with
  | nil =>
    intro vs w
    rw [List.map_nil] at w
    cases w
    exact .nil
  | cons n ns ih =>
    intro vs w
    rw [List.map_cons] at w
    cases w with
    | cons a b =>
      cases a
      exact .cons _ _ (ih _ b)
theorem script_of {l : OpenLaw} {n : Nat} (hn : l.most = some n) {P : Params} {h : Heap} {args : List WData} {vals : List Value}
    (hpre : l.row.toRowW.claim.pre args = true) (hwl : WellAll P h vals args) :
    ∃ a vs ns, vals = [Value.ref a] ∧ args = [WData.list (ns.map WData.int)] ∧ h.get? a = some { cls := .type "list", data := .seq vs.toArray } ∧ IntsAre vs ns ∧ ns.length ≤ n := by
  have hsh : WShape.hasAll [] args [.list .int] = true := (pre_splitW hpre).1
  have hc : l.pre.holds [] { args := args } = true := (pre_splitW hpre).2
  obtain ⟨d, r, rfl, h1, h2⟩ := hasAllW_cons hsh
  obtain rfl := hasAllW_nil h2
  obtain ⟨xs, rfl, h3⟩ := hasW_list h1
  obtain ⟨ns, rfl⟩ := items_int h3
  have hlen : ns.length ≤ n := by
    unfold OpenLaw.pre at hc
    have h4 : (WTm.not (.lt (.lit (.int (n : Int))) (.len (.arg 0)))).holds [] { args := [.list (ns.map .int)] } = true := by
      have h4 := (holds_andW hc).1
      rw [hn] at h4
      exact h4
    have h5 := condW_of h4 (w_not (w_lt w_lit (w_len_list (w_arg rfl))))
    rw [List.length_map] at h5
    refine Nat.le_of_not_lt fun q => ?_
    have q' : (n : Int) < ((ns.length : Nat) : Int) := by omega
    first
      | (rw [decide_eq_true q'] at h5; exact absurd h5 (by decide))
      | (simp at h5; omega)
  cases hwl with
  | cons w1 w2 =>
    cases w2
    cases w1 with
    | list ho hall => exact ⟨_, _, ns, rfl, rfl, ho, ints_of_wellAll ns _ hall, hlen⟩
theorem post_true (l : OpenLaw) (args : List WData) : l.row.toRowW.claim.post args (.bool true) args = true :=
  postW_of (r := l.row.toRowW) (X := (true == true))
    (show WShape.has [] (.bool true) .bool = true by first | rfl | decide | simp [WShape.has, WShape.arms, WShape.armsAll])
    (show (WTm.eq .res (.lit (.bool true))).value [] { args := args, res := some (.bool true), after := args } = some (.bool (true == true)) from w_eq_bool (w_res rfl) w_lit) rfl
theorem attach_call {l : OpenLaw} {n : Nat} {q : Program} {loose : List Str} {XP : (Str → Option Value) → Heap → Prop} {YP : World → Heap → Prop} {d : DefRec}
    (hn : l.most = some n) (hdf : d.params.defaults = [])
    (call : ∀ (w : World) (s₀ s₁ : Shared) (mg mb : Str → Option Value) (fa : Addr) (o : Obj) (pm cd doc : Value) (a : Addr) (vs : List Value) (ns : List Int),
      Ground q loose [] XP w s₀ mg mb s₁.heap → YP w s₁.heap →
      s₁.heap.get? fa = some o → o.data = .func (docDef d.name d.params d.body d.scope pm cd doc) → s₁.heap.CodeRec cd d.name → mg d.name = some (.ref fa) →
      s₁.heap.get? a = some { cls := .type "list", data := .seq vs.toArray } → IntsAre vs ns → ns.length ≤ n → s₁.gens = #[] →
      codeAny (model l.prog w) callerA (.call (.ref fa) ⟨[.ref a], []⟩) (fun r s' => r = .ok (.ret (.bool true)) ∧ OldK s₁.heap s'.heap ∧ s'.os = s₁.os ∧ AllBare s'.gens) s₁) :
    WalkO q loose XP YP l.row.toRowW d [] (fun f vs => PySem.call f vs) := by
  intro w s₀ s₁ mg mb G Y fa o pm cd doc dV kV ho hd hcd hD hmg hg args vals as hpre hlay hrd hwl hlo
  obtain rfl : dV = .none := Dflts.none hD hdf
  obtain rfl : kV = .none := Dflts.noKw hD
  obtain ⟨a, vs, ns, rfl, rfl, hobj, hints, hlen⟩ := script_of hn hpre hwl
  refine enter_call (codeAny_mono (call w s₀ s₁ mg mb fa o pm cd doc a vs ns G Y ho (fd_plain hd) hcd hmg hobj hints hlen hg) fun r s' hq => ?_)
  obtain ⟨rfl, h2, h3, h4⟩ := hq
  exact ⟨.inl ⟨.bool true, .bool true, [], rfl, fun _ => rfl, .bool true, post_true l _, fun _ => ⟨List.Pairwise.nil, fun _ hm => (nomatch hm)⟩⟩, h2, h3, h4⟩
section
variable {prog : Program} {w : World} {A : Around} {E : Value → Shared → Prop} {s : Shared} {K : Frag}
end
end Att
namespace L2
open PySem PySem.Spec PyProof.Rows
theorem vals_ints : ∀ {vs : List Value} {ns : List Int}, IntsAre vs ns → Vals (ns.map V.int) vs
  | _, _, .nil => .nil
  | _, _, .cons n t h => .cons ⟨t, rfl⟩ (vals_ints h)
def Only (H : Hp) : Prop := ∀ b, H b = none ∨ ∃ o xs, H b = some (.frz o (.lst xs))
theorem law_call {P : Program} {w : World} {K : PySem.W.Frag} {mg mb : Str → Option Value} {CX : CXT} {k : Nat} {fa a : Addr} {fd : FuncData} {x : Str} {sp : Sp} {s₁ : Shared} {vs : List Value} {ns : List Int}
    (KX : K.In s₁.heap) (hns : s₁.heap.Ns mainGlobals mg) (hb : s₁.heap.Ns builtinsNs mb) (hbb : ∀ x : Str, x ≠ "__name__" → mb x = bootBuiltins x) (hlim : s₁.heap.NoLimit) (hg : s₁.gens = #[])
    (ha : s₁.heap.get? a = some { cls := .type "list", data := .seq vs.toArray }) (hi : IntsAre vs ns) (hl : ns.length ≤ sizeLine) (hr : Room k callerA)
    (F : ∀ base : Heap, K.In base → base.Ns mainGlobals mg → FnOk P w K mg base CX k fa fd [x] sp) (hbind : ∀ (s : Shared) (u : Value), BindsTo s fd ⟨[u], []⟩ [(x, u)])
    (hsp : ∀ H : Hp, Only H → SqL K H a (ns.map V.int) → sp [.ref a] H (fun v _ => v = .bl true) fun _ _ _ => False)
    (hCX : ∀ H e s', CX [] H s₁ (fun _ _ _ => False) e s' → False) :
    codeAny (model P w) callerA (.call (.ref fa) ⟨[.ref a], []⟩) (fun r s' => r = .ok (.ret (.bool true)) ∧ OldK s₁.heap s'.heap ∧ s'.os = s₁.os ∧ AllBare s'.gens) s₁ := by
  have rv := vals_ints hi
  have lenV := hi.length
  have core : ∀ H : Hp, Only H → SqL K H a (ns.map V.int) → HOk P w H s₁.heap → (∀ b, H b ≠ none → b = a) → (H a ≠ none → K.lookup a = none) →
      codeAny (model P w) callerA (.call (.ref fa) ⟨[.ref a], []⟩) (fun r s' => r = .ok (.ret (.bool true)) ∧ OldK s₁.heap s'.heap ∧ s'.os = s₁.os ∧ AllBare s'.gens) s₁ := by
    intro H hO hS hok hA hK
    have base_of : ∀ {b : Addr} {o : Obj}, s₁.heap.get? b = some o → H b = none → (hidT s₁.heap H).get? b = some o := fun e n => hidT_get e n
    have noA : ∀ {b : Addr} {o : Obj} {es : Array DictEntry} {ep : Nat}, s₁.heap.get? b = some o → o.data = .dict es ep → H b = none := fun {b o es ep} e d => by
      cases q : H b with
      | none => rfl
      | some u =>
        have e' : b = a := hA b (by rw [q]; simp)
        subst e'
        rw [ha] at e; cases e
        have d' : Data.seq vs.toArray _ = Data.dict es ep := d
        cases d'
    have nsK : ∀ {b : Addr} {m : Str → Option Value}, s₁.heap.Ns b m → (hidT s₁.heap H).Ns b m := fun {b m} ⟨o, es, ep, e, d, r⟩ => ⟨o, es, ep, base_of e (noA e d), d, r⟩
    have hKb : K.In (hidT s₁.heap H) := fun b o e => base_of (KX b o e) (by
      cases q : H b with
      | none => rfl
      | some u =>
        have e' : b = a := hA b (by rw [q]; simp)
        subst e'
        rw [hK (by rw [q]; simp)] at e; cases e)
    have hM : Mod K mg (hidT s₁.heap H) := ⟨hKb, nsK hns, ⟨mb, nsK hb, hbb⟩, let ⟨mc, h1, h2⟩ := hlim; ⟨mc, nsK h1, h2⟩⟩
    have e0 : Env0 P w K mg (hidT s₁.heap H) callerA [] s₁ H := ⟨rfl, hM, fun b o e => of_hidT e, Nat.le_of_eq (hidT_size _ _), trivial, fun b hb => absurd (show b ∈ ([] : List Addr) from hb) (by simp), hok, .of_eq hg⟩
    refine codeAny_mono ((F _ hKb (nsK hns)).run callerA [] s₁ H ⟨[.ref a], []⟩ [.ref a] [.ref a] _ _ hr e0 (hbind s₁ (.ref a)) (.cons rfl .nil) (hsp H hO hS)) fun r s' h => ?_
    cases r with
    | error e => exact (hCX H e s' h).elim
    | ok fl =>
      cases fl with
      | next => exact False.elim h
      | brk => exact False.elim h
      | cont => exact False.elim h
      | ret u =>
        obtain ⟨v, H', os, bare, un, hok', r', q⟩ := h
        have q' : v = .bl true := q
        subst q'
        obtain rfl : u = Value.bool true := r'
        refine ⟨rfl, OldK.of_keep fun b o e => ?_, os, bare⟩
        cases q : H b with
        | none => exact un.keep b o e q (by intro z; exact absurd (show b ∈ ([] : List Addr) from z) (by simp)) (by simp)
        | some u =>
          rcases hO b with z | ⟨ob, xs, z⟩
          · rw [q] at z; cases z
          · have z2 := un.frzs b ob _ z
            obtain ⟨e1, _⟩ := hok b _ z
            obtain ⟨e2, _⟩ := hok' b _ z2
            rw [e] at e1; cases e1
            exact e2
  cases hk : K.lookup a with
  | some o =>
    have e := KX a o hk
    rw [ha] at e
    cases e
    refine core (fun _ => none) (fun _ => .inl rfl) (.inr ⟨_, vs.toArray, _, hk, rfl, rfl, rfl, by rw [List.size_toArray, lenV]; exact hl, by simpa using rv⟩) (fun b u z => by have z' : (none : Option HO) = some u := z; cases z') (fun b z => absurd rfl z) fun z => absurd rfl z
  | none =>
    refine core (fun b => if b = a then some (.frz { cls := .type "list", data := .seq vs.toArray } (.lst (ns.map V.int))) else none) (fun b => ?_) (.inl (.inr ⟨{ cls := .type "list", data := .seq vs.toArray }, if_pos rfl⟩)) (fun b u z => ?_) (fun b z => ?_) fun _ => hk
    · by_cases hb : b = a
      · exact .inr ⟨_, _, if_pos hb⟩
      · exact .inl (if_neg hb)
    · by_cases hb : b = a
      · have z' := (if_pos hb).symm.trans z
        cases z'
        subst hb
        exact ⟨ha, by rw [List.length_map]; exact hl, vs, _, rv, ha⟩
      · have z' := (if_neg hb).symm.trans z
        cases z'
    · by_cases hb : b = a
      · exact hb
      · exact absurd (if_neg hb) z
end L2
namespace L2
open PySem PySem.Spec PyProof.Rows
theorem walk_of {l : PySem.W.OpenLaw} {n k : Nat} {q : Program} {loose : List Str} {XP : (Str → Option Value) → Heap → Prop} {YP : World → Heap → Prop} {d : DefRec} {K : Params → PySem.W.Frag} {CX : World → CXT} {sp : World → Sp} {x : Str}
    (hn : l.most = some n) (hn2 : n ≤ sizeLine) (hdf : d.params.defaults = []) (hr : Room k callerA)
    (hY : ∀ (w : World) (h : Heap), YP w h → (K w.params).In h)
    (F : ∀ (w : World) (mg : Str → Option Value) (fa : Addr) (h : Heap), (K w.params).In h → h.Ns mainGlobals mg → mg d.name = some (.ref fa) →
      ∃ fd : FuncData, (∀ (s : Shared) (u : Value), BindsTo s fd ⟨[u], []⟩ [(x, u)]) ∧
        ∀ base : Heap, (K w.params).In base → base.Ns mainGlobals mg → FnOk l.prog w (K w.params) mg base (CX w) k fa fd [x] (sp w))
    (hsp : ∀ (w : World) (H : Hp) (a : Addr) (ns : List Int), ns.length ≤ n → Only H → SqL (K w.params) H a (ns.map V.int) → sp w [.ref a] H (fun v _ => v = .bl true) fun _ _ _ => False)
    (hCX : ∀ (w : World) (H : Hp) (s : Shared) (e : Value) (s' : Shared), CX w [] H s (fun _ _ _ => False) e s' → False) :
    PySem.W.WalkO q loose XP YP l.row.toRowW d [] (fun f vs => PySem.call f vs) := by
  refine Att.attach_call hn hdf fun w s₀ s₁ mg mb fa o pm cd doc a vs ns G Y ho hd hcd hmg hobj hints hlen hg => ?_
  have KX := hY w _ Y
  obtain ⟨fd, hb, hF⟩ := F w mg fa _ KX G.T.g hmg
  exact law_call KX G.T.g G.T.b G.T.builtins G.T.nolimit hg hobj hints (Nat.le_trans hlen hn2) hr hF hb (fun H hO hS => hsp w H a ns hlen hO hS) fun H e s' => hCX w H s₁ e s'
end L2
namespace L2
open PySem PySem.Spec PyProof.Rows
def inClass (s : Stmt) (j : Nat) : Stmt := match s with
  | .ClassDef _ _ _ body _ _ _ _ _ _ _ => body.getD j (.Pass ⟨0, 0, 0, 0⟩)
  | _ => .Pass ⟨0, 0, 0, 0⟩
def defArgs (s : Stmt) : Arguments := match s with
  | .FunctionDef _ a _ _ _ _ _ _ _ _ => a
  | _ => { posonlyargs := [], args := [], vararg := none, kwonlyargs := [], kw_defaults := [], kwarg := none, defaults := [] }
def defBody (s : Stmt) : List Stmt := match s with
  | .FunctionDef _ _ b _ _ _ _ _ _ _ => b
  | _ => []
def defScope (s : Stmt) : Scope := match s with
  | .FunctionDef _ _ _ _ _ _ sc _ _ _ => sc
  | _ => { kind := .function, names := [], isGenerator := false, isCoroutine := false }
abbrev CX0 : CXT := fun _ _ _ _ _ _ => False
abbrev E0 : XK := fun _ _ _ => False
theorem pass0 {X : Cx} : Passes CX0 X E0 := fun _ _ _ _ _ _ _ h => h.elim
structure Fun (K : PySem.W.Frag) (x qual : Str) (st : Stmt) (f : Addr) (fd : FuncData) : Prop where
  ex : ∃ (oc : Value) (od : Option Addr) (kV doc pm : Value) (an : Option Addr) (cdv ct : Value) (osl : Array (Option Value)),
    fd = PySem.W.fnOf x qual (defArgs st) (defBody st) (defScope st) .none kV doc pm an cdv ct ∧ K.lookup f = some ⟨oc, od, .func fd, osl⟩ ∧ PySem.W.codeIn K cdv qual = true
  kp : PySem.W.keepIn K (.ref f) = true
section
variable {P : Program} {w : World} {K : PySem.W.Frag} {mg : Str → Option Value} {base : Heap}
theorem Fun.ok {x qual : Str} {st : Stmt} {f : Addr} {fd : FuncData} {N ps : List Str} {k : Nat} {sp : Sp} (F : Fun K x qual st f fd) (S : FnScope N ps (defScope st)) (len : ∀ vs H Q E, sp vs H Q E → vs.length = ps.length)
    (hbody : ∀ (cdv : Value) (A : Around) (outer : List Env) (s : Shared) (H : Hp) (vs : List V) (Q : VK) (E : XK), Room k (A.deeper (envOfC qual (defScope st) s.heap.objs.size f cdv)) → sp vs H Q E →
      ∃ t, PSs (cxOf CX0 P w K mg base N qual (defScope st) f cdv A outer s H E).nox (defBody st) t ∧ t { nx := fun _ H' => Q .non H', rt := Q } (start N vs) H) : FnOk P w K mg base CX0 (k + 1) f fd ps sp := by
  obtain ⟨oc, od, kV, doc, pm, an, cdv, ct, osl, rfl, lk, hcd⟩ := F.ex
  refine fn_of lk hcd S len fun A outer s H vs Q E hr hsp => ?_
  obtain ⟨t, h, q⟩ := hbody cdv A outer s H vs Q E hr hsp
  exact ⟨t, h.nox, q⟩
theorem Fun.binds {x qual : Str} {st : Stmt} {f : Addr} {fd : FuncData} {ps : List Str} (F : Fun K x qual st f fd)
    (h : ∀ (kV doc pm : Value) (an : Option Addr) (cdv ct : Value) (us : List Value), us.length = ps.length → bindArgs (PySem.W.fnOf x qual (defArgs st) (defBody st) (defScope st) .none kV doc pm an cdv ct) ⟨us, []⟩ = pure (ps.zip us)) : Binds K fd ps [] := by
  obtain ⟨oc, od, kV, doc, pm, an, cdv, ct, osl, rfl, lk, hcd⟩ := F.ex
  exact .all (h kV doc pm an cdv ct)
theorem fun_mk {x qual : Str} {st : Stmt} {f : Addr} {oc : Value} {od an : Option Addr} {osl : Array (Option Value)} {kV doc pm cdv ct : Value} (l : K.lookup f = some ⟨oc, od, .func (PySem.W.fnOf x qual (defArgs st) (defBody st) (defScope st) .none kV doc pm an cdv ct), osl⟩)
    (c : PySem.W.codeIn K cdv qual = true) (k : PySem.W.keepIn K (.ref f) = true) : Fun K x qual st f (PySem.W.fnOf x qual (defArgs st) (defBody st) (defScope st) .none kV doc pm an cdv ct) := ⟨⟨oc, od, kV, doc, pm, an, cdv, ct, osl, rfl, l, c⟩, k⟩
end
section
variable {X : Cx}
end
def Same (H H' : Hp) : Prop := ∀ b o, H b = some o → H' b = some o
theorem Same.refl (H : Hp) : Same H H := fun _ _ h => h
theorem Same.trans {H H1 H2 : Hp} (a : Same H H1) (b : Same H1 H2) : Same H H2 := fun c o h => b c o (a c o h)
theorem Same.free {H H' : Hp} (e : Same H H') {l : Addr} (h : H' l = Option.none) : H l = Option.none := by
  cases q : H l with
  | none => rfl
  | some o =>
    rw [e l o q] at h
    cases h
theorem Same.seq {K : PySem.W.Frag} {H H' : Hp} {a : Addr} {xs : List V} (e : Same H H') (h : SqL K H a xs) : SqL K H' a xs := by
  rcases h with (h | ⟨o, h⟩) | h
  · exact .inl (.inl (e _ _ h))
  · exact .inl (.inr ⟨o, e _ _ h⟩)
  · exact .inr h
end L2
set_option Elab.async false
set_option linter.all false
set_option maxRecDepth 100000
namespace L2
open PySem PySem.Spec PyProof.Rows
section
variable {P : Program} {w : World} {K : PySem.W.Frag} {mg : Str → Option Value} {base : Heap}
def Def0 (K : PySem.W.Frag) (mg : Str → Option Value) (x : Str) (st : Stmt) (ps : List Str) : Prop :=
  ∃ (f : Addr) (fd : FuncData), Fun K x x st f fd ∧ Binds K fd ps [] ∧ mg x = some (.ref f)
def Def (P : Program) (w : World) (K : PySem.W.Frag) (mg : Str → Option Value) (base : Heap) (k : Nat) (x : Str) (ps : List Str) (sp : Sp) : Prop :=
  ∃ (f : Addr) (fd : FuncData), FnOk P w K mg base CX0 k f fd ps sp ∧ Binds K fd ps [] ∧ PySem.W.keepIn K (.ref f) = true ∧ mg x = some (.ref f)
theorem Def0.ok {x : Str} {st : Stmt} {N ps : List Str} {k : Nat} {sp : Sp} (D : Def0 K mg x st ps) (S : FnScope N ps (defScope st)) (len : ∀ vs H Q E, sp vs H Q E → vs.length = ps.length)
    (hbody : ∀ (f : Addr) (cdv : Value) (A : Around) (outer : List Env) (s : Shared) (H : Hp) (vs : List V) (Q : VK) (E : XK), Room k (A.deeper (envOfC x (defScope st) s.heap.objs.size f cdv)) → sp vs H Q E →
      ∃ t, PSs (cxOf CX0 P w K mg base N x (defScope st) f cdv A outer s H E).nox (defBody st) t ∧ t { nx := fun _ H' => Q .non H', rt := Q } (start N vs) H) : Def P w K mg base (k + 1) x ps sp := by
  obtain ⟨f, fd, F, b, m⟩ := D
  exact ⟨f, fd, F.ok S len (hbody f), b, F.kp, m⟩
theorem Def.mono {x : Str} {ps : List Str} {j k : Nat} {sp : Sp} (D : Def P w K mg base j x ps sp) (h : j ≤ k) : Def P w K mg base k x ps sp := by
  obtain ⟨f, fd, F, b, kp, m⟩ := D
  exact ⟨f, fd, F.mono h, b, kp, m⟩
end
section
variable {X : Cx} {k : Nat} {x : Str} {ps : List Str} {sp : Sp} {p pos : Pos} {e : Expr} {es : List Expr} {t : TA}
theorem pe_callD {j : Nat} (D : Def X.prog X.w X.K X.mg X.base k x ps sp) (hr : Room j X.A) (hj : k ≤ j) (ha : PA X (e :: es) t) (hg : Gl X x := by rfl) (hdb : (x == ("__debug__" : Str)) = false := by decide)
    (he : starEach (e :: es) X.env = (false, eval e X.env) :: starEach es X.env := by rfl) (hpl : (backTo pos (starEach es X.env)).any (·.1) = false := by rfl) : PE X (.Call (.Name x p) (e :: es) [] pos) (tCall sp [] E0 t) := by
  obtain ⟨f, fd, F, b, kp, m⟩ := D
  exact pe_call F (hr.mono hj) hg m kp b .nil pass0 ha hdb he hpl
theorem pe_gint {i : Int} (h : ∃ t, X.mg x = some (.int i t)) (hg : Gl X x := by rfl) (hd : (x == ("__debug__" : Str)) = false := by decide) : PE X (.Name x pos) (tC (.int i)) := by
  obtain ⟨t, h⟩ := h
  exact pe_glob hg h ⟨t, rfl⟩ hd
def CDivC (_ j : Int) : Prop := 0 < j ∧ j.natAbs.log2 < 9000
theorem op_fdivC : OpR X (binaryOp .FloorDiv) (rI CDivC fun i j => .int (i / j)) := opI fun i j _ _ _ _ _ hc q => by
  have h1 : (0 : Int) < j := hc.1
  exact floordiv_int (by omega) (by rw [Int.fdiv_eq_ediv_of_nonneg i (by omega)]; exact q) (.inl (PyProof.noPylong_of_log2 hc.2))
theorem call_isinst : CallR X (.builtin "isinstance") (fun xs H Q => ∃ (x : V) (n : String) (t : Value) (b : Bool), xs = [x, .ty n] ∧ TyOf X.K H x t ∧ PySem.W.kitOne X.K t (.type n) = some b ∧ Q (.bl b) H) := by
  intro pins s σ H xs us Q I r h
  obtain ⟨x, n, t, b, rfl, ty, e, q⟩ := h
  cases r with
  | cons rx rr =>
    cases rr with
    | cons ry rr =>
      cases rr
      cases ry
      exact isinst_ok I rx ty e fun tk => ⟨.bl b, H, I.tok tk, rfl, q⟩
theorem pe_ty {x : Str} {n : String} {pos : Pos} (hm : X.mg x = none) (hv : bootBuiltins x = some (.type n)) (hg : Gl X x := by rfl) (hn : x ≠ "__name__" := by decide) (hd : (x == ("__debug__" : Str)) = false := by decide) : PE X (.Name x pos) (tC (.ty n)) :=
  pe_bltn hg hm hv rfl hn hd
end
end L2
set_option Elab.async false
set_option linter.all false
set_option maxRecDepth 100000
set_option maxHeartbeats 4000000
namespace L2
open PySem PySem.Spec PyProof.Rows
theorem closure_some {scope : Scope} {env : Env} (h : ∀ x ∈ scope.names, x.2 = .free → ∃ c, env.cells.lookup x.1 = some c) :
    ∃ cl : List (Str × Addr), closureFor scope env = pure cl ∧ (∀ n c, (n, c) ∈ cl → env.cells.lookup n = some c) ∧ ∀ x ∈ scope.names, x.2 = .free → ∃ c, (x.1, c) ∈ cl := by
  have key : ∀ (names : List (Str × NameKind)) (acc : List (Str × Addr)), (∀ x ∈ names, x.2 = .free → ∃ c, env.cells.lookup x.1 = some c) → (∀ n c, (n, c) ∈ acc → env.cells.lookup n = some c) →
      ∃ cl : List (Str × Addr), (forIn names acc fun (x : Str × NameKind) (cs : List (Str × Addr)) => if (x.2 == NameKind.free) = true then (do let c ← cellOf env x.1; pure (ForInStep.yield ((x.1, c) :: cs)) : Sem _) else pure (ForInStep.yield cs)) = (pure cl : Sem _) ∧
        (∀ n c, (n, c) ∈ cl → env.cells.lookup n = some c) ∧ (∀ p ∈ acc, p ∈ cl) ∧ ∀ x ∈ names, x.2 = .free → ∃ c, (x.1, c) ∈ cl := by
    intro names
    induction names with
    | nil => intro acc _ ha; exact ⟨acc, rfl, ha, fun _ p => p, fun x hx => nomatch hx⟩
    | cons y r ih =>
      intro acc hx ha
      obtain ⟨n, k⟩ := y
      by_cases hk : k = .free
      · subst hk
        obtain ⟨c, hc⟩ := hx (n, .free) List.mem_cons_self rfl
        obtain ⟨cl, e, h1, h2, h3⟩ := ih ((n, c) :: acc) (fun x z => hx x (List.mem_cons_of_mem _ z)) (fun m d z => by
          rcases List.mem_cons.mp z with z | z
          · cases z; exact hc
          · exact ha m d z)
        refine ⟨cl, ?_, h1, fun p z => h2 p (List.mem_cons_of_mem _ z), fun x z zf => ?_⟩
        · have ec : cellOf env n = pure c := by unfold cellOf; rw [hc]
          rw [List.forIn_cons]
          simp only [beq_self_eq_true, if_true, ec, pure_bind]
          exact e
        · rcases List.mem_cons.mp z with z | z
          · cases z; exact ⟨c, h2 _ List.mem_cons_self⟩
          · exact h3 x z zf
      · obtain ⟨cl, e, h1, h2, h3⟩ := ih acc (fun x z => hx x (List.mem_cons_of_mem _ z)) ha
        refine ⟨cl, ?_, h1, h2, fun x z zf => ?_⟩
        · have hb : (k == NameKind.free) = false := by simpa using hk
          rw [List.forIn_cons]
          simp only [hb, Bool.false_eq_true, if_false, pure_bind]
          exact e
        · rcases List.mem_cons.mp z with z | z
          · cases z; exact absurd zf hk
          · exact h3 x z zf
  obtain ⟨cl, e, h1, _, h3⟩ := key scope.names [] h (fun n c z => nomatch z)
  refine ⟨cl, ?_, h1, h3⟩
  simp only [closureFor]
  rw [e]
  rfl
def Cx.comp (X : Cx) (scope : Scope) (N' : List Str) (cl : List (Str × Addr)) (C : Addr) (s₀ : Shared) (H₀ : Hp) (fp : List Addr) : Cx where
  prog := X.prog
  w := X.w
  K := X.K
  mg := X.mg
  base := X.base
  A := X.A
  N := N'
  s₀ := s₀
  H₀ := H₀
  env := compEnvC scope cl C X.env
  outer := X.stack
  stack := X.stack
  ex := fp
  fn := fun _ => false
  calm := X.calm
  pn := []
  xe := fun _ _ => False
def inner (src : List Nat) (σ : St) (x : Option V) : St := x :: src.map fun j => (σ[j]?).join
theorem lookup_mem {α : Type} {l : List (Str × α)} {n : Str} {c : α} (h : (n, c) ∈ l) : ∃ d, l.lookup n = some d := by
  induction l with
  | nil => cases h
  | cons y r ih =>
    obtain ⟨m, d⟩ := y
    by_cases e : n == m
    · exact ⟨d, by rw [List.lookup_cons, e]⟩
    · rcases List.mem_cons.mp h with z | z
      · cases z; exact absurd (beq_self_eq_true n) e
      · obtain ⟨d', q⟩ := ih z
        exact ⟨d', by rw [List.lookup_cons, Bool.eq_false_iff.mpr e]; exact q⟩
theorem relabel_kind {env : Env} {n : Str} : ∀ {names : List (Str × NameKind)} {k : NameKind}, (∀ y ∈ names, y.2 ≠ .cell) →
    (names.map fun (n, k) => if (k == NameKind.free && env.scope.kind == .function && env.kindOf n == some .cell) then (n, NameKind.cell) else (n, k)).lookup n = some k → (k = .cell ∨ k = .free) → (n, NameKind.free) ∈ names
  | [], _, _, h, _ => by simp at h
  | (m, j) :: r, k, hc, h, hk => by
    have nc : j ≠ .cell := hc (m, j) List.mem_cons_self
    rw [List.map_cons] at h
    by_cases e : n == m
    · have en : n = m := by simpa using e
      subst en
      by_cases cnd : (j == NameKind.free && env.scope.kind == .function && env.kindOf n == some .cell) = true
      · have : j = .free := by
          simp only [Bool.and_eq_true, beq_iff_eq] at cnd
          exact cnd.1.1
        rw [this]
        exact List.mem_cons_self
      · simp only [cnd] at h
        rw [if_neg (by simp), List.lookup_cons, beq_self_eq_true] at h
        cases h
        rcases hk with rfl | rfl
        · exact absurd rfl nc
        · exact List.mem_cons_self
    · refine List.mem_cons_of_mem _ (relabel_kind (env := env) (k := k) (fun y hy => hc y (List.mem_cons_of_mem _ hy)) ?_ hk)
      rw [List.lookup_cons] at h
      have e2 : (n == (if (j == NameKind.free && env.scope.kind == .function && env.kindOf m == some .cell) = true then (m, NameKind.cell) else (m, j)).1) = false := by
        split <;> exact Bool.eq_false_iff.mpr e
      rw [e2] at h
      exact h
theorem relabel_free {env : Env} : ∀ {names : List (Str × NameKind)} {x : Str}, names.lookup x = some .free →
    (names.map fun (n, k) => if (k == NameKind.free && env.scope.kind == .function && env.kindOf n == some .cell) then (n, NameKind.cell) else (n, k)).lookup x = some .cell ∨
    (names.map fun (n, k) => if (k == NameKind.free && env.scope.kind == .function && env.kindOf n == some .cell) then (n, NameKind.cell) else (n, k)).lookup x = some .free
  | [], _, h => by simp at h
  | (n, k) :: r, x, h => by
    have ih := @relabel_free env r x
    rw [List.map_cons]
    cases hx : x == n with
    | true =>
      simp only [List.lookup_cons, hx] at h
      cases h
      by_cases hc : (NameKind.free == NameKind.free && env.scope.kind == .function && env.kindOf n == some .cell) = true
      · left
        show List.lookup x ((if (NameKind.free == NameKind.free && env.scope.kind == .function && env.kindOf n == some .cell) = true then (n, NameKind.cell) else (n, NameKind.free)) :: _) = _
        rw [if_pos hc, List.lookup_cons, hx]
      · right
        show List.lookup x ((if (NameKind.free == NameKind.free && env.scope.kind == .function && env.kindOf n == some .cell) = true then (n, NameKind.cell) else (n, NameKind.free)) :: _) = _
        rw [if_neg hc, List.lookup_cons, hx]
    | false =>
      simp only [List.lookup_cons, hx] at h
      have e : ∀ t, List.lookup x ((if (k == NameKind.free && env.scope.kind == .function && env.kindOf n == some .cell) = true then (n, NameKind.cell) else (n, k)) :: t) = List.lookup x t := fun t => by
        split <;> rw [List.lookup_cons, hx]
      rcases ih h with q | q
      · exact .inl ((e _).trans q)
      · exact .inr ((e _).trans q)
section
variable {X : Cx} {x : Str} {px : Pos} {iter elt : Expr} {scope : Scope} {pos : Pos} {N' : List Str} {src : List Nat} {wi : TI} {te : TE}
structure CompScope (scope sc : Scope) (x : Str) (N N' : List Str) (src : List Nat) : Prop where
  kind : scope.kind = .function
  cell : ∀ y ∈ scope.names, y.2 ≠ .cell
  loc : ∀ y ∈ scope.names, y.2 = .local → scope.names.lookup y.1 = some .local
  own : scope.names.lookup x = some .local
  free : ∀ y ∈ scope.names, y.2 = .free → sc.names.lookup y.1 = some .cell
  nd : N'.Nodup
  names : N' = x :: src.map fun j => N.getD j x
  all : ∀ j ∈ src, j < N.length
  fr : ∀ j ∈ src, sc.names.lookup (N.getD j x) = some .cell ∧ scope.names.lookup (N.getD j x) = some .free
theorem comp_start {pins : List (Addr × Obj)} {σ : St} {H : Hp} {s s' : Shared} {C : Addr} {cl : List (Str × Addr)} {fp : List Addr} (I : Inv X pins σ H s) (S : CompScope scope X.env.scope x X.N N' src)
    (hcl : ∀ n c, (n, c) ∈ cl → X.env.cells.lookup n = some c) (hcl2 : ∀ y ∈ scope.names, y.2 = .free → ∃ c, (y.1, c) ∈ cl) (hC : s.heap.objs.size ≤ C) (hfp : ∀ b ∈ fp, FpOk X pins H b) (hfl : ∀ b ∈ fp, b < s.heap.objs.size)
    (hn : ∃ m, s'.heap.Ns C m) (hk : ∀ b o, s.heap.get? b = some o → s'.heap.get? b = some o) (ho : s'.os = s.os) (hg : s'.gens = s.gens) :
    Inv (X.comp scope N' cl C s H fp) [] (inner src σ none) H s' := by
  have cll : ∀ n c, cl.lookup n = some c → X.env.cells.lookup n = some c := fun n c e => hcl n c (PySem.mem_of_lookup e)
  refine ⟨⟨I.ok.mod, S.kind, I.ok.glob, I.ok.blt, hC, fun y z c h1 h2 => I.ok.inj y z c (cll _ _ h1) (cll _ _ h2), fun y hy => ?_, fun y c h => absurd (show false = true from h) (by decide), I.ok.hd, I.ok.frames, .inl rfl, fun b hb => ⟨Nat.ne_of_lt (Nat.lt_of_lt_of_le (hfl b hb) hC), fun y c e => (hfp b hb).2.2.2.2.1 y c (cll y c e)⟩,
    I.bs, Nat.le_trans I.ok.bsz I.sz, fun b o e hb => ?_, fun b hb => ?_, I.stack, I.stkFree⟩, ho, ?_, Un.kept hk, ?_, fun y c e => ?_, I.hok.fresh hC, fun y c e => I.freeC y c (cll y c e), fun p hp => absurd (show p ∈ ([] : List (Addr × Obj)) from hp) (by simp), I.hok.kept hk, ?_⟩
  · have hy' : (relabel scope X.env).names.lookup y = some .cell ∨ (relabel scope X.env).names.lookup y = some .free := hy
    have : (y, NameKind.free) ∈ scope.names := by
      rcases hy' with h | h
      · exact relabel_kind S.cell h (.inl rfl)
      · exact relabel_kind S.cell h (.inr rfl)
    obtain ⟨c, hc⟩ := hcl2 _ this rfl
    exact lookup_mem hc
  · rcases (hfp b hb).2.2.2.1 with z | z
    · exact I.ok.noex b o e z
    · exact absurd (Nat.lt_of_lt_of_le (Heap.lt_size e) (Nat.le_trans I.ok.bsz z)) (Nat.lt_irrefl _)
  · intro hs
    rcases List.mem_cons.mp (I.stkSub b hs) with z | z
    · exact (hfp b hb).2.1 z
    · exact (hfp b hb).2.2.1 z
  · rw [hg]; exact I.bare
  · obtain ⟨m, hm⟩ := hn
    refine ⟨m, hm, fun i y v h1 h2 h3 => ?_⟩
    have h1' : N'[i]? = some y := h1
    rw [S.names] at h1'
    cases i with
    | zero => cases (show (some none : Option (Option V)) = some (some v) from h2)
    | succ k =>
      rw [List.getElem?_cons_succ, List.getElem?_map] at h1'
      have h2' : (src.map fun j => (σ[j]?).join)[k]? = some (some v) := h2
      rw [List.getElem?_map] at h2'
      cases e : src[k]? with
      | none => rw [e] at h1'; cases h1'
      | some j =>
        rw [e] at h1' h2'
        have hj := List.mem_of_getElem? e
        have ey : X.N.getD j x = y := Option.some.inj h1'
        have ev : (σ[j]?).join = some v := Option.some.inj h2'
        have eN : X.N[j]? = some y := by
          have := S.all j hj
          rw [List.getElem?_eq_getElem this]
          rw [List.getD_eq_getElem?_getD, List.getElem?_eq_getElem this] at ey
          exact congrArg some ey
        have eσ : σ[j]? = some (some v) := by
          cases q : σ[j]? with
          | none => rw [q] at ev; cases ev
          | some z => rw [q] at ev; exact congrArg some ev
        obtain ⟨k1, k2⟩ := S.fr j hj
        rw [ey] at k1 k2
        obtain ⟨mo, hmo, hl⟩ := I.loc
        obtain ⟨u, r, l⟩ := hl j y v eN eσ (.inr (.inl k1))
        refine ⟨u, r, ?_⟩
        rcases l with ⟨z, _⟩ | ⟨_, c, hc, hcell⟩
        · have z' : X.env.scope.names.lookup y = some .local := z
          rw [k1] at z'; cases z'
        · obtain ⟨c', hc'⟩ := hcl2 _ (PySem.mem_of_lookup k2) rfl
          obtain ⟨d, hd⟩ := lookup_mem hc'
          have ed : d = c := by
            have := cll _ _ hd
            rw [hc] at this
            exact (Option.some.inj this).symm
          subst ed
          obtain ⟨o, e1, e2⟩ := hcell
          refine .inr ⟨?_, d, hd, o, hk _ _ e1, e2⟩
          rcases h3 with z | z | z
          · have z' : (relabel scope X.env).names.lookup y = some .local := z
            rcases relabel_free (env := X.env) k2 with w | w
            · have w' : (relabel scope X.env).names.lookup y = some .cell := w
              rw [w'] at z'; cases z'
            · have w' : (relabel scope X.env).names.lookup y = some .free := w
              rw [w'] at z'; cases z'
          · exact .inl z
          · exact .inr z
  · obtain ⟨v, o, e1, e2⟩ := I.cell y c (cll y c e)
    exact ⟨v, o, hk _ _ e1, e2⟩
  · show (inner src σ none).length = N'.length
    rw [S.names]
    unfold inner
    rw [List.length_cons, List.length_cons, List.length_map, List.length_map]
theorem compLoop_go {prog : Program} {w : World} {A : Around} {R : Result → Shared → Prop} {s : Shared} {elt target iter : Expr} {scope : Scope} {pos : Pos} {it acc : Value} {env : Env} (I : Nat → Shared → Prop)
    (turn : ∀ n s, I n s → wpAny (model prog w) A (pyNext it) (fun r s₁ => match r with
      | none => R (.ok .next) s₁
      | some v => wpAny (model prog w) A (letOwnedTupleGo target it v) (fun _ s₂ => wpAny (model prog w) A (assign target env v) (fun _ s₃ => wpAny (model prog w) A (eval elt env) (fun x s₄ =>
          wpAny (model prog w) A (call (.builtin "list.append") [acc, x]) (fun _ s₅ => ∃ m, m < n ∧ I m s₅) (notedBy (model prog w) A env fun e s' => R (.error e) s') s₄) (notedBy (model prog w) A env fun e s' => R (.error e) s') s₃)
          (notedBy (model prog w) A env fun e s' => R (.error e) s') s₂) (notedBy (model prog w) A env fun e s' => R (.error e) s') s₁) (notedBy (model prog w) A env fun e s' => R (.error e) s') s)
    (n : Nat) (h : I n s) : codeAny (model prog w) A (.compLoop (.ListComp elt [⟨target, iter, [], 0⟩] scope pos) 0 it acc env) R s := by
  refine codeAny_loop rfl I (fun n s hI => ?_) n h
  show wpAny _ A ((compTurn (.ListComp elt [⟨target, iter, [], 0⟩] scope pos) 0 it acc env).onRaise (fun x => do noteFrame x env; theTreesLotGoes x)) _ _ s
  refine wpAny_noted ?_
  rw [compTurn_list1]
  refine wpAny_bind (wpAny_standAt (wpAny_bind (thn (turn n s hI) fun r s₁ h₁ => ?_)))
  cases r with
  | none => exact wpAny_pure h₁
  | some v =>
    refine wpAny_bind (thn h₁ fun _ s₂ h₂ => wpAny_bind (thn h₂ fun _ s₃ h₃ => ?_))
    exact wpAny_bind (wpAny_bind (thn h₃ fun x s₄ h₄ => wpAny_bind (thn h₄ fun _ s₅ h₅ => wpAny_pure (wpAny_pure ⟨rfl, h₅⟩))))
def lcR (J : It) (src : List Nat) (σ : St) (te : TE) (H1 : Hp) (Q : VK) : Prop := ∃ (n : Nat) (Pv : Nat → List V → Hp → Prop), n ≤ sizeLine ∧ Pv 0 [] H1 ∧
  (∀ i ys H, i < n → Pv i ys H → J.go i H ∧ ∀ y H', J.yld i H y H' → te (inner src σ (some y)) H' fun z H2 => Pv (i + 1) (ys ++ [z]) H2) ∧
  ∀ ys H, Pv n ys H → J.stop n H ∧ ∀ p, H p = none → Q (.ref p) (upd H p (.lst ys))
def tLc (wi : TI) (src : List Nat) (te : TE) : TE := fun σ H Q => wi σ H fun J H1 => lcR J src σ te H1 Q
theorem HOk.lay {P : Program} {w : World} {H : Hp} {h : Heap} {a : Addr} {o : HO} (x : HOk P w H h) (hn : H a = none) (new : ObjOk P w (upd H a o) h a o) : HOk P w (upd H a o) h := fun b u e => by
  by_cases hb : b = a
  · subst hb; rw [upd_same] at e; cases e; exact new
  · rw [upd_ne hb] at e
    exact (x b u e).stay (fun c v _ q => q) (fun c q => by rw [upd_ne (ne_of_none q hn)]; exact q) fun c xs q => by rw [upd_ne (ne_of_none q hn)]; exact q
theorem Un.lay {fs ex : List Addr} {H H1 : Hp} {h h1 : Heap} {a : Addr} {o : HO} (u : Un fs ex H H1 h h1) (hn : H1 a = none) (hh : h.get? a = none) : Un fs ex H (upd H1 a o) h h1 where
  keep := u.keep
  slot := u.slot
  free := fun b ob q n hx => by rw [upd_ne (fun z => by rw [z, hh] at q; cases q)]; exact u.free b ob q n hx
  there := u.there
  tups := fun b xs q => by rw [upd_ne (ne_of_none (u.tups b xs q) hn)]; exact u.tups b xs q
  frzs := fun b ob xs q => by rw [upd_ne (ne_of_none (u.frzs b ob xs q) hn)]; exact u.frzs b ob xs q
  tbls := fun b ps q => by
    obtain ⟨m, e⟩ := u.tbls b ps q
    exact ⟨m, by rw [upd_ne (ne_of_none e hn)]; exact e⟩
theorem lc_run {pins : List (Addr × Obj)} {σ : St} {H : Hp} {s : Shared} {cl : List (Str × Addr)} {it : Addr} {fp : List Addr} {tn : Nat → Heap → Prop} {J : It} {n : Nat} {Pv : Nat → List V → Hp → Prop} {RR : Value → Addr → Result → Shared → Prop} {E : Value → Shared → Prop}
    (I : Inv X pins σ H s) (hcm : X.calm = true) (S : CompScope scope X.env.scope x X.N N' src) (hcl : ∀ n c, (n, c) ∈ cl → X.env.cells.lookup n = some c) (hcl2 : ∀ y ∈ scope.names, y.2 = .free → ∃ c, (y.1, c) ∈ cl)
    (T : Turn X.prog X.w X.K (.Name x px) J fp it tn) (t0 : tn 0 s.heap) (hfp : ∀ b ∈ fp, FpOk X pins H b)
    (helt : ∀ (cl : List (Str × Addr)) (C : Addr) (s₀ : Shared) (H₀ : Hp) (fp : List Addr), PE (X.comp scope N' cl C s₀ H₀ fp) elt te)
    (hn : n ≤ sizeLine) (p0 : Pv 0 [] H) (turn : ∀ i ys H, i < n → Pv i ys H → J.go i H ∧ ∀ y H', J.yld i H y H' → te (inner src σ (some y)) H' fun z H2 => Pv (i + 1) (ys ++ [z]) H2) (stop : ∀ ys H, Pv n ys H → J.stop n H)
    (hR : ∀ (D C : Addr) (o : Obj) (ys : List V) (H' : Hp) (s' : Shared), Pv n ys H' → H' D = none → Inv X (pins ++ [(C, o)]) σ (upd H' D (.lst ys)) s' → (∃ m, s'.heap.Ns C m) → FpOk X pins (upd H' D (.lst ys)) C → RR (.ref D) C (.ok .next) s') :
    wpAny (model X.prog X.w) X.A (newList []) (fun acc s₃ => wpAny (model X.prog X.w) X.A (newFunctionEnv scope X.env.globals cl [] X.env.qual none .none (some X.env)) (fun cenv s₄ =>
      codeAny (model X.prog X.w) X.A (.compStart (.ListComp elt [⟨.Name x px, iter, [], 0⟩] scope pos) 0 (.ref it) acc { cenv with scope := relabel scope X.env }) (RR acc cenv.locals) s₄) E s₃) E s := by
  refine wpAny_newObj_type (wpAny_newFunctionEnv S.cell (by intro y hy; simp at hy) (fun h₁ hns₁ hsb₁ => ?_) S.kind)
  dsimp only at hns₁ hsb₁ ⊢
  generalize hH2 : s.heap.push { cls := .type "list", dict := none, data := .seq ([] : List Value).toArray } = H2 at hns₁ hsb₁ ⊢
  have hC : H2.objs.size = s.heap.objs.size + 1 := by rw [← hH2, Heap.size_push]
  have hDC : s.heap.objs.size ≠ H2.objs.size := by rw [hC]; exact Nat.ne_of_lt (Nat.lt_succ_self _)
  have hCle : s.heap.objs.size ≤ H2.objs.size := by rw [hC]; exact Nat.le_succ _
  have below : ∀ b, b < s.heap.objs.size → b ≠ H2.objs.size ∧ b ≠ s.heap.objs.size := fun b hb => ⟨by rw [hC]; exact Nat.ne_of_lt (Nat.lt_succ_of_lt hb), Nat.ne_of_lt hb⟩
  have old : ∀ b o, s.heap.get? b = some o → h₁.get? b = some o := fun b o e => hsb₁.extBut b o (below b (Heap.lt_size e)).1 (Heap.get?_push_of_some _ (hH2 ▸ Heap.get?_push_of_some _ e))
  have hacc : h₁.PlainList s.heap.objs.size #[] := ⟨_, hsb₁.extBut _ _ hDC (Heap.get?_push_of_some _ (hH2 ▸ Heap.get?_push_size _ rfl))⟩
  have hfl : ∀ b ∈ fp, b < s.heap.objs.size := fun b hb => by
    obtain ⟨o, e, _⟩ := T.obj 0 _ t0 b hb
    exact Heap.lt_size e
  have fresh : ∀ a, s.heap.objs.size ≤ a → s.heap.get? a = none := fun a ha => by
    cases e : s.heap.get? a with
    | none => rfl
    | some o' => exact absurd (Heap.lt_size e) (Nat.not_lt.mpr ha)
  generalize eD : s.heap.objs.size = D at hDC hacc hCle below fresh hfl hC ⊢
  generalize eC : H2.objs.size = C at hDC hCle below hC hns₁ hsb₁ ⊢
  have I1 : Inv (X.comp scope N' cl C s H fp) [] (inner src σ none) H { s with heap := h₁, toks := s.toks + ([] : List (Str × Value)).length } :=
    comp_start I S hcl hcl2 (by rw [eD]; exact hCle) hfp (by rw [eD]; exact hfl) ⟨_, hns₁⟩ old rfl rfl
  have stat : ∀ {H' : Hp} {pl : List (Addr × Obj)}, (∀ p ∈ pl, p.1 = D) → (∀ b ∈ fp, H' b = none) → ∀ b ∈ fp, FpOk (X.comp scope N' cl C s H fp) pl H' b := fun {H' pl} hp hn b hb =>
    ⟨hn b hb, (below b (hfl b hb)).1, fun z => by
      rcases List.mem_cons.mp (I.stkSub b z) with q | q
      · exact (hfp b hb).2.1 q
      · exact (hfp b hb).2.2.1 q, .inl hb, fun y c e => (hfp b hb).2.2.2.2.1 y c (hcl y c (PySem.mem_of_lookup e)), fun p hq => by
      rw [hp p (by rcases List.mem_append.mp hq with z | z; exact absurd (show p ∈ ([] : List (Addr × Obj)) from z) (by simp); exact z)]
      exact Ne.symm (below b (hfl b hb)).2⟩
  have nD : D ∉ frs X.stack := fun z => by
    rcases List.mem_cons.mp (I.stkSub D z) with q | q
    · have := I.lt; rw [← q, eD] at this; exact Nat.lt_irrefl _ this
    · exact I.nofs (a := D) (by rw [eD]; exact Nat.le_refl _) q
  have nC : C ∉ X.fs := I.nofs (by rw [eD]; exact hCle)
  have cellD : ∀ y c, cl.lookup y = some c → c < D := fun y c e => by
    obtain ⟨v, q⟩ := I.cell y c (hcl y c (PySem.mem_of_lookup e))
    have := q.lt
    rw [eD] at this
    exact this
  have loop : ∀ s₃ : Shared, s₃ = { s with heap := h₁, toks := s.toks + ([] : List (Str × Value)).length } →
      codeAny (model X.prog X.w) X.A (.compLoop (.ListComp elt [⟨.Name x px, iter, [], 0⟩] scope pos) 0 (.ref it) (.ref D) (compEnvC scope cl C X.env)) (RR (.ref D) C) s₃ := by
    rintro s₃ rfl
    refine compLoop_go (fun k s' => ∃ (i : Nat) (ys : List V) (its : List Value) (H' : Hp) (xo : Option V), Inv (X.comp scope N' cl C s H fp) [] (inner src σ xo) H' s' ∧ tn i s'.heap ∧ (∀ b ∈ fp, H' b = none) ∧ s'.heap.PlainList D its.toArray ∧ Vals ys its ∧ H' D = none ∧
      Pv i ys H' ∧ ys.length = i ∧ i ≤ n ∧ k = n + 1 - i) ?_ (n + 1) ⟨0, [], [], H, none, I1, T.keep _ _ _ t0 (fun b _ o e => old b o e), fun b hb => (hfp b hb).1, hacc, .nil, I.hok.fresh (by rw [eD]; exact Nat.le_refl _), p0, rfl, Nat.zero_le _, rfl⟩
    rintro k s' ⟨i, ys, its, H', xo, I3, t3, f3, l3, v3, d3, p3, e3, le3, rfl⟩
    by_cases hlt : i < n
    · obtain ⟨go, step⟩ := turn i ys H' hlt p3
      obtain ⟨nn, oD⟩ := id l3
      have I3p : Inv (X.comp scope N' cl C s H fp) [(D, { cls := .type "list", data := .seq its.toArray nn })] (inner src σ xo) H' s' :=
        I3.pins_of fun p hp => by
          have ep : p = (D, { cls := .type "list", data := .seq its.toArray nn }) := by simpa using hp
          subst ep
          exact ⟨oD, d3, hDC, nD, fun v z => by cases z⟩
      refine thn (T.item (X.comp scope N' cl C s H fp) rfl rfl rfl hcm i _ s' _ H' _ I3p (stat (by simp) f3) t3 go) fun r s4 ⟨u, hr, h4⟩ => ?_
      subst hr
      refine thn h4 fun _ s5 ⟨y, H5, I5, r5, y5, st5, fr5⟩ => ?_
      have I5' := I5.pinned (stat (by simp) fr5) (T.obj _ _ st5)
      have hg : PG (X.comp scope N' cl C s H fp) (.Name x px) (gName 0) :=
        pg_name S.nd (by show N'[0]? = some x; rw [S.names]; rfl) (.inl (lookup_relabel_local S.own)) (.inr (lookup_relabel_local S.own))
      refine wpAny_mono (hg _ s5 _ H5 y u (fun σ2 H2 => σ2 = inner src σ (some y) ∧ H2 = H5) I5' r5 ⟨rfl, rfl⟩) (fun _ s6 ⟨σ6, H6, I6, e6, e6'⟩ => ?_) fun _ _ z => False.elim z
      subst e6 e6'
      refine wpAny_mono (helt cl C s H fp _ s6 _ _ _ I6 (step y _ y5)) (fun v s7 ⟨z, H7, I7, r7, q7⟩ => ?_) fun _ _ z => False.elim z
      have o7 := I7.pin (D, { cls := .type "list", data := .seq its.toArray nn }) (by simp)
      have hys : its.toArray.size ≤ sizeLine := by
        have := v3.length
        rw [List.size_toArray]
        omega
      refine wpAny_list_append_plain (hsz := hys) (items := its.toArray) (s := s7) ⟨nn, o7.1⟩ fun h8 hl8 hs8 => ?_
      refine ⟨n + 1 - (i + 1), by omega, i + 1, ys ++ [z], its ++ [v], H7, some y, ?_, ?_, ?_, ?_, v3.append (.cons r7 .nil), o7.2.1, q7, by rw [List.length_append, e3] <;> rfl, hlt, rfl⟩
      · have I7' : Inv (X.comp scope N' cl C s H fp) [] (inner src σ (some y)) H7 s7 := I7.pins_of fun p hp => absurd hp (by simp)
        exact I7'.turned (t' := s7.toks) (it := D) (fun b o hb e => (hs8.2 b hb).trans e) o7.2.1 hDC (.inr (by show s.heap.objs.size ≤ D; rw [eD]; exact Nat.le_refl _)) (fun y c e => Nat.ne_of_lt (cellD y c e)) fun p hp => absurd (show p ∈ ([] : List (Addr × Obj)) from hp) (by simp)
      · refine T.keep _ _ _ st5 fun b hb o e => (hs8.2 b (below b (hfl b hb)).2).trans ?_
        exact (I7.pin (b, o) (List.mem_append_right _ (List.mem_append_right _ (mem_pinsAt hb e)))).1
      · intro b hb
        obtain ⟨o, e, _⟩ := T.obj _ _ st5 b hb
        exact (I7.pin (b, o) (List.mem_append_right _ (List.mem_append_right _ (mem_pinsAt hb e)))).2.1
      · have : (its ++ [v]).toArray = its.toArray.push v := by simp
        rw [this]; exact hl8
    · have ein : i = n := by omega
      subst ein
      obtain ⟨nn, oD⟩ := id l3
      have I3p : Inv (X.comp scope N' cl C s H fp) [(D, { cls := .type "list", data := .seq its.toArray nn })] (inner src σ xo) H' s' :=
        I3.pins_of fun p hp => by
          have ep : p = (D, { cls := .type "list", data := .seq its.toArray nn }) := by simpa using hp
          subst ep
          exact ⟨oD, d3, hDC, nD, fun v z => by cases z⟩
      refine thn (T.done (X.comp scope N' cl C s H fp) rfl rfl rfl hcm i _ s' _ H' _ I3p (stat (by simp) f3) t3 (stop ys H' p3)) fun r s4 ⟨hr, I4⟩ => ?_
      subst hr
      have o4 := I4.pin (D, { cls := .type "list", data := .seq its.toArray nn }) (by simp)
      have newI : Inv X pins σ (upd H' D (.lst ys)) s4 := I.call' (ch := fp) I4.os (I4.base.lay d3 (fresh D (Nat.le_refl _))) (I4.hok.lay d3 ⟨by omega, its, nn, v3, o4.1⟩) I4.bare (fun b hb =>
        ⟨(hfp b hb).2.2.2.1, (hfp b hb).2.1, (hfp b hb).2.2.2.2.1, (hfp b hb).2.2.2.2.2⟩)
      obtain ⟨m, hm, _⟩ := I4.loc
      obtain ⟨o, es, ep, ho, hd, _⟩ := id hm
      refine hR D C o ys H' s4 p3 d3 (newI.pins_of fun p hp => ?_) ⟨m, hm⟩ (I.fpOk (by rw [eD]; exact hCle) (by rw [upd_ne (Ne.symm hDC)]; exact I4.free))
      rcases List.mem_append.mp hp with z | z
      · exact newI.pin p (List.mem_append_right _ z)
      · have ep : p = (C, o) := by simpa using z
        subst ep
        refine ⟨ho, by rw [upd_ne (Ne.symm hDC)]; exact I4.free, fun z => ?_, nC, fun v z => ?_⟩
        · have := I.lt
          rw [eD, ← z] at this
          exact absurd (Nat.lt_of_lt_of_le this hCle) (Nat.lt_irrefl _)
        · have z' : o.data = .cell v := z
          rw [hd] at z'; cases z'
  exact codeAny_compStart_list (loop _ rfl) (T.self _ 0 _ _ _ (T.keep _ _ _ t0 (fun b _ o e => old b o e)) (loop _ rfl))
theorem pe_lc {sc : Scope} {N : List Str} (S : CompScope scope sc x N N' src) (hsc : X.env.scope = sc) (hN : X.N = N) (hi : PI X (.Name x px) iter wi)
    (helt : ∀ (cl : List (Str × Addr)) (C : Addr) (s₀ : Shared) (H₀ : Hp) (fp : List Addr), PE (X.comp scope N' cl C s₀ H₀ fp) elt te) (hcm : X.calm = true := by rfl) (hs : ∀ v, foldedSetIterable iter X.env v = pure v := by intro _; rfl) :
    PE X (.ListComp elt [⟨.Name x px, iter, [], 0⟩] scope pos) (tLc wi src te) := by
  subst hsc hN
  intro pins s σ H Q I h
  obtain ⟨cl, hclos, hcl, hcl2⟩ := closure_some (scope := scope) (env := X.env) fun y hy hf => I.ok.has y.1 (.inl (S.free y hy hf))
  rw [eval_ListComp]
  refine wpAny_comprehension_free (use := none) rfl hs hclos S.kind S.loc ?_
  refine thn (hi pins s σ H _ I h) fun v s1 h1 => thn h1 fun itv s2 h2 => ?_
  obtain ⟨it, fp, tn, J, H2, e, I2, T, st2, f2, n, Pv, hn, p0, turn, done⟩ := h2
  subst e
  refine lc_run I2 hcm S hcl hcl2 T st2 f2 helt hn p0 turn (fun ys H p => (done ys H p).1) fun D C o ys H' s' p d J' hm ho => ?_
  obtain ⟨m, hm⟩ := hm
  refine ⟨m, hm, fun h' hs' => ?_⟩
  have J2 : Inv X pins σ (upd H' D (.lst ys)) s' := J'.pins_of fun q hq => J'.pin q (List.mem_append_right _ (List.mem_append_left _ hq))
  obtain ⟨f0, f1, f2, f3, f4, f5⟩ := ho
  exact ⟨.ref D, _, J2.turned (t' := s'.toks) (it := C) (fun b o hb e => (hs'.2 b hb).trans e) f0 f1 f3 f4 f5, rfl, (done ys H' p).2 D d⟩
end
end L2
set_option Elab.async false
set_option linter.all false
set_option maxRecDepth 100000
set_option maxHeartbeats 4000000
namespace L2
open PySem PySem.Spec PyProof.Rows PySem.SeqAt
section
variable {X : Cx}
theorem preSum_eq {ns : List Int} : ∀ k, k ≤ ns.length → preSum (fun i => ns.getD i 0) k = (ns.take k).sum
  | 0, _ => by simp [preSum]
  | k + 1, h => by
    have hk : k < ns.length := by omega
    rw [preSum, preSum_eq k (by omega), List.take_add_one, List.getElem?_eq_getElem hk, List.getD_eq_getElem?_getD, List.getElem?_eq_getElem hk]
    show _ = (ns.take k ++ [ns[k]]).sum
    rw [List.sum_append, List.sum_cons, List.sum_nil, Int.add_zero]
    rfl
theorem call_sum (hc : X.calm = true) : CallR X (.builtin "sum") (fun xs H Q => ∃ (p : Addr) (ns : List Int), xs = [.ref p] ∧ SqL X.K H p (ns.map V.int) ∧ Q (.int ns.sum) H) := by
  intro pins s σ H xs us Q I r h
  obtain ⟨p, ns, rfl, hq, q⟩ := h
  obtain ⟨u, rfl, rx⟩ := vals1 r
  cases rx
  obtain ⟨its, r', pl, hz⟩ := I.list hq
  have hl := r'.length
  rw [List.length_map] at hl
  refine call_sum_walkG (wpAny_pyIter_list pl.isList ?_)
  have hne : p ≠ s.heap.objs.size := by
    obtain ⟨o, n, e, _⟩ := pl
    exact Nat.ne_of_lt (Heap.lt_size e)
  refine ⟨s.heap.objs.size, _, _, _, _, _, fun i => ns.getD i 0, rfl, Walks.list (A := X.A.in1) (I.ok.hd hc) _ p hne its.toArray, ⟨⟨_, Heap.get?_push_size _ rfl, rfl, rfl⟩, ?_⟩, ?_, ?_, fun h' tk t' hk => ?_⟩
  · obtain ⟨o, n, e, hc', hd, hs⟩ := pl
    exact ⟨o, Heap.get?_push_of_some _ e, hc', n, hs⟩
  · intro b hb
    have hb' : b = s.heap.objs.size ∨ b = p := by simpa using hb
    rcases hb' with rfl | rfl
    · show _ < (s.heap.push _).objs.size
      rw [Heap.size_push]; exact Nat.lt_succ_self _
    · obtain ⟨o, n, e, _⟩ := pl
      show _ < (s.heap.push _).objs.size
      rw [Heap.size_push]; exact Nat.lt_succ_of_lt (Heap.lt_size e)
  · intro i v hp
    have hp' : its[i]? = some v := by simpa using hp
    have hi : i < ns.length := by rw [hl]; exact (List.getElem?_eq_some_iff.mp hp').1
    obtain ⟨u, hu, ru⟩ := r'.get (i := i) (x := .int (ns.getD i 0)) (by rw [List.getElem?_map, List.getElem?_eq_getElem hi, List.getD_eq_getElem?_getD, List.getElem?_eq_getElem hi]; rfl)
    rw [hp'] at hu; cases hu
    exact ru
  · refine ⟨.int ns.sum, H, (I.kept (t' := s.toks) fun b o e => Heap.get?_push_of_some _ e).turned (it := s.heap.objs.size) (fun b o hb e => hk b o (by simpa using hb) e) (I.hok.fresh (Nat.le_refl _)) (Nat.ne_of_gt I.lt) (.inr I.sz) (fun x c e z => ?_) (fun q hq z => ?_), ⟨t', ?_⟩, q⟩
    · obtain ⟨v, w'⟩ := I.cell x c e
      exact absurd w'.lt (by rw [z]; exact Nat.lt_irrefl _)
    · exact absurd (Heap.lt_size (I.pin q hq).1) (by rw [z]; exact Nat.lt_irrefl _)
    · rw [List.size_toArray, ← hl, preSum_eq _ (Nat.le_refl _), List.take_length]
mutual
inductive RdV (K : PySem.W.Frag) (H : Hp) : V → PyData → Prop
  | non : RdV K H .non .none
  | bl (b : Bool) : RdV K H (.bl b) (.bool b)
  | int (i : Int) : RdV K H (.int i) (.int i)
  | str (x : Str) : RdV K H (.str x) (.str x)
  | lst {a : Addr} {xs : List V} {ds : List PyData} : SqL K H a xs → RdVs K H xs ds → RdV K H (.ref a) (.list ds)
  | tup {a : Addr} {xs : List V} {ds : List PyData} : SqT K H a xs → RdVs K H xs ds → RdV K H (.ref a) (.tuple ds)
inductive RdVs (K : PySem.W.Frag) (H : Hp) : List V → List PyData → Prop
  | nil : RdVs K H [] []
  | cons {x : V} {xs : List V} {d : PyData} {ds : List PyData} : RdV K H x d → RdVs K H xs ds → RdVs K H (x :: xs) (d :: ds)
end
mutual
theorem RdV.reads {pins : List (Addr × Obj)} {σ : St} {H : Hp} {s : Shared} (I : Inv X pins σ H s) : ∀ {x : V} {d : PyData} {u : Value}, RdV X.K H x d → RelV x u → ∃ as, Reads s.heap u d as
  | _, _, _, .non, r => by cases r; exact ⟨_, .none⟩
  | _, _, _, .bl b, r => by cases r; exact ⟨_, .bool b⟩
  | _, _, _, .int i, r => by obtain ⟨t, rfl⟩ := r; exact ⟨_, .int i t⟩
  | _, _, _, .str x, r => by obtain ⟨t, rfl⟩ := r; exact ⟨_, .str x t⟩
  | _, _, _, .lst h hs, r => by
    cases r
    obtain ⟨its, rv, ⟨o, n, e, hc, hd, hq⟩, _⟩ := I.list h
    obtain ⟨as, q⟩ := RdVs.reads I hs rv
    exact ⟨_, .list e hc hq (by simpa using q)⟩
  | _, _, _, .tup h hs, r => by
    cases r
    obtain ⟨its, rv, ⟨o, e, hc, n, hq⟩, _⟩ := I.tuple h
    obtain ⟨as, q⟩ := RdVs.reads I hs rv
    exact ⟨_, .tuple e hc hq (by simpa using q)⟩
theorem RdVs.reads {pins : List (Addr × Obj)} {σ : St} {H : Hp} {s : Shared} (I : Inv X pins σ H s) : ∀ {xs : List V} {ds : List PyData} {us : List Value}, RdVs X.K H xs ds → Vals xs us → ∃ as, ReadsAll s.heap us ds as
  | _, _, _, .nil, r => by cases r; exact ⟨_, .nil⟩
  | _, _, _, .cons h hs, r => by
    cases r with
    | cons r rr =>
      obtain ⟨as, q⟩ := RdV.reads I h r
      obtain ⟨bs, q2⟩ := RdVs.reads I hs rr
      exact ⟨_, .cons q q2⟩
end
theorem op_eqD (hu : X.A.units + 64 < cLine) : OpR X (compareOp .Eq) (fun x y H Q => ∃ d e : PyData, RdV X.K H x d ∧ RdV X.K H y e ∧ shaped d = true ∧ shaped e = true ∧ noMix d e = true ∧ Q (.bl (same d e)) H) := by
  intro pins s σ H x y v u Q I rx ry h
  obtain ⟨d, e, hd, he, sd, se, hm, q⟩ := h
  obtain ⟨as, ra⟩ := hd.reads I rx
  obtain ⟨bs, rb⟩ := he.reads I ry
  exact eq_dataH_same ra rb sd se hu hm ⟨.bl _, H, I, rfl, q⟩
theorem op_neD (hu : X.A.units + 64 < cLine) : OpR X (compareOp .NotEq) (fun x y H Q => ∃ d e : PyData, RdV X.K H x d ∧ RdV X.K H y e ∧ shaped d = true ∧ shaped e = true ∧ noMix d e = true ∧ Q (.bl (!same d e)) H) := by
  intro pins s σ H x y v u Q I rx ry h
  obtain ⟨d, e, hd, he, sd, se, hm, q⟩ := h
  obtain ⟨as, ra⟩ := hd.reads I rx
  obtain ⟨bs, rb⟩ := he.reads I ry
  exact ne_dataH_same ra rb sd se hu hm ⟨.bl _, H, I, rfl, q⟩
theorem op_notT : OpR X (compareOp .IsNot) (fun x y H Q => ∃ b c : Bool, x = .bl b ∧ y = .bl c ∧ Q (.bl (!(b == c))) H) := by
  intro pins s σ H x y v u Q I rx ry h
  obtain ⟨b, c, rfl, rfl, q⟩ := h
  cases rx
  cases ry
  have e : (Value.bool b == Value.bool c) = (b == c) := by cases b <;> cases c <;> rfl
  exact wpAny_isNot_plain rfl ⟨.bl _, H, I, rfl, by rw [e]; exact q⟩
def pickV (xs : List V) (lo hi st : Option Int) : List V := (sliceRange (sliceBounds lo hi st xs.length).1 (sliceBounds lo hi st xs.length).2.1 (sliceBounds lo hi st xs.length).2.2).filterMap (xs[·]?)
theorem Vals.pick {xs : List V} {us : List Value} (r : Vals xs us) : ∀ ks : List Nat, Vals (ks.filterMap (xs[·]?)) (ks.filterMap (us[·]?))
  | [] => .nil
  | k :: ks => by
    cases e : xs[k]? with
    | none =>
      have e' := r.none_of e
      rw [List.filterMap_cons_none e, List.filterMap_cons_none e']
      exact r.pick ks
    | some x =>
      obtain ⟨u, e', q⟩ := r.get e
      rw [List.filterMap_cons_some e, List.filterMap_cons_some e']
      exact .cons q (r.pick ks)
def tSl3 (K : PySem.W.Frag) (te : TE) (tl th ts : TO) : TE := fun σ H Q => te σ H fun x H1 => tl σ H1 fun l H2 => th σ H2 fun u H3 => ts σ H3 fun st H4 => ∃ a xs, x = .ref a ∧ SqL K H4 a xs ∧ st ≠ some 0 ∧ (pickV xs l u st).length ≤ sizeLine ∧
  ∀ p, H4 p = none → Q (.ref p) (upd H4 p (.lst (pickV xs l u st)))
theorem pe_slice3 {e sp : Expr} {te : TE} {lo hi : Option Expr} {tl th ts : TO} {pos p2 : Pos} (he : PE X e te) (hl : PO X lo tl) (hu : PO X hi th) (hs : PO X (some sp) ts) : PE X (.Subscript e (.Slice lo hi (some sp) p2) pos) (tSl3 X.K te tl th ts) := by
  intro pins s σ H Q I h
  refine Subscript_ (thn (he pins s σ H _ I h) fun v s1 ⟨x, H1, I1, r1, q1⟩ => ?_)
  refine wpAny_Slice (thn (hl pins s1 σ H1 _ I1 q1) fun vl s2 ⟨l, H2, I2, pl, q2⟩ => thn (hu pins s2 σ H2 _ I2 q2) fun vu s3 ⟨u, H3, I3, pu, q3⟩ => thn (hs pins s3 σ H3 _ I3 q3) fun vs s4 ⟨st, H4, I4, ps, q4⟩ => ?_)
  obtain ⟨a, xs, rfl, hx, h0, hz', q⟩ := q4
  cases r1
  have I5 : Inv X pins σ H4 { s4 with heap := s4.heap.push { cls := .type "slice", data := .fields #[vl, vu, vs] } } := I4.kept (t' := s4.toks) fun b ob q => Heap.get?_push_of_some _ q
  obtain ⟨its, r, ht, hz⟩ := I5.list hx
  have hlen := r.length
  show wpAny (model X.prog X.w) X.A (subscriptTail e (.Slice lo hi (some sp) p2) (.ref a) (.ref s4.heap.objs.size)) (EP X pins σ Q) X.xe { s4 with heap := s4.heap.push { cls := .type "slice", data := .fields #[vl, vu, vs] } }
  refine tail_any (ops := [.ref a, .ref s4.heap.objs.size]) ht.isList.typeIs slot_list_getitem.lookup (wpAny_getItem_list_slice ht.isList (Heap.IsSliceOf.new ..) pl pu ps h0 ?_ (by rw [List.size_toArray] <;> omega)) (by with_unfolding_all rfl)
  have ep : slicePick its.toArray l u st = ((sliceRange (sliceBounds l u st xs.length).1 (sliceBounds l u st xs.length).2.1 (sliceBounds l u st xs.length).2.2).filterMap (its[·]?)).toArray := by
    unfold slicePick
    rw [List.size_toArray, ← hlen]
    simp
  rw [ep]
  refine ⟨.ref _, _, I5.laid (t' := s4.toks) (o := .lst (pickV xs l u st)) (fun b ob q => Heap.get?_push_of_some _ q) (Nat.le_refl _) ?_, rfl, q _ (I5.hok.fresh (Nat.le_refl _))⟩
  exact ⟨hz', _, 0, r.pick _, Heap.get?_push_size _ rfl⟩
theorem noFill_tuple_mul : fillsNumberSlot (.type "tuple") "mul" = pure false :=
  PySem.fillsNumberSlot_seq (id := "tuple.__mul__") (r := some (.builtin "tuple.__rmul__")) F.slot_tuple_mul.lookup (by decide +kernel) F.slot_tuple_rmul.lookup (by decide +kernel)
theorem repeat_tuple : seqRepeat? (.type "tuple") = pure (some (.builtin "tuple.__mul__")) := by
  unfold seqRepeat?
  rw [PySem.seqSlot_of (T := "tuple") (name := "__mul__") (id := "tuple.__mul__") F.slot_tuple_mul.lookup (by decide +kernel), PySem.seqSlot_of (T := "tuple") (name := "__rmul__") (id := "tuple.__rmul__") F.slot_tuple_rmul.lookup (by decide +kernel)]
  rfl
end
end L2
set_option Elab.async false
set_option linter.all false
set_option maxRecDepth 100000
set_option maxHeartbeats 4000000
namespace L2
open PySem PySem.Spec PyProof.Rows Builtin
theorem int_rmul_tuple (a : Int) (t : Tok) (l : Addr) (items : Array Value) (n : Nat) (dd : Option Addr) (sl : Array (Option Value)) :
    Meets (Builtin.«int.__rmul__» ⟨[.int a t, .ref l], []⟩) (fun _ R s => s.heap.get? l = some { cls := .type "tuple", dict := dd, data := .seq items n, slots := sl } ∧ R (.ok (.ret Value.notImplemented)) s) :=
  .of_wp fun prog w A R s h => by obtain ⟨hp, g, d, tk, os⟩ := s; obtain ⟨hl, h⟩ := h; wp_walk; exact ⟨_, rfl, h⟩
theorem tuple_mul_one (l : Addr) (items : Array Value) (n : Nat) (dd : Option Addr) (sl : Array (Option Value)) (u : Tok) :
    Meets (Builtin.«tuple.__mul__» ⟨[.ref l, .int 1 u], []⟩) (fun _ R s => s.heap.get? l = some { cls := .type "tuple", dict := dd, data := .seq items n, slots := sl } ∧ R (.ok (.ret (Value.ref l))) s) :=
  .of_wp fun prog w A R s h => by
    obtain ⟨hp, g, d, tk, os⟩ := s; obtain ⟨hl, h⟩ := h
    wp_walk
    exact ⟨_, rfl, h⟩
theorem tuple_mul_none (l : Addr) (items : Array Value) (n : Nat) (dd : Option Addr) (sl : Array (Option Value)) (u : Tok) (h0 : items.isEmpty = false) :
    Meets (Builtin.«tuple.__mul__» ⟨[.ref l, .int 0 u], []⟩) (fun _ R s => s.heap.get? l = some { cls := .type "tuple", dict := dd, data := .seq items n, slots := sl } ∧ R (.ok (.ret (Value.ref s.heap.objs.size))) { s with heap := s.heap.push { cls := .type "tuple", data := .seq #[] } }) :=
  .of_wp fun prog w A R s h => by
    obtain ⟨hp, g, d, tk, os⟩ := s; obtain ⟨hl, h⟩ := h
    wp_walk
    exact ⟨_, rfl, h⟩
theorem tuple_mul_many (l : Addr) (items : Array Value) (n : Nat) (dd : Option Addr) (sl : Array (Option Value)) (x : Int) (u : Tok) (h0 : items.isEmpty = false) (h1 : 2 ≤ x) (h2 : x < 1000) (h3 : items.size * x ≤ 1000) :
    Meets (Builtin.«tuple.__mul__» ⟨[.ref l, .int x u], []⟩) (fun _ R s => s.heap.get? l = some { cls := .type "tuple", dict := dd, data := .seq items n, slots := sl } ∧ R (.ok (.ret (Value.ref s.heap.objs.size))) { s with heap := s.heap.push { cls := .type "tuple", data := .seq (List.foldl (fun x1 x2 => x1 ++ x2) #[] (List.replicate x.toNat items)) } }) :=
  .of_wp fun prog w A R s h => by
    obtain ⟨hp, g, d, tk, os⟩ := s; obtain ⟨hl, h⟩ := h
    have c1 : ¬ (decide (x < -(2 ^ 63)) || decide (x ≥ 2 ^ 63)) = true := by rw [decide_eq_false (by omega), decide_eq_false (by omega)]; decide
    have c2 : ¬ (items.isEmpty || x == 1) = true := by
      have : (x == 1) = false := by simp; omega
      rw [h0, this]; decide
    have c3 : ¬ (decide (x ≤ 0) || items.isEmpty) = true := by rw [h0, decide_eq_false (by omega)]; decide
    have c4 : ¬ ((items.size : Int) * x > (2 ^ 63 - 1) / 8) := by omega
    have c5 : ¬ Tuple.tupleTooMany ((items.size : Int) * x) = true := by
      unfold Tuple.tupleTooMany
      rw [decide_eq_false (by rw [sizeLine_eq]; omega)]
      decide
    wp_walk
    rw [if_neg c1]
    wp_walk
    rw [if_neg c2]
    show wpAny (model prog w) A.in1 (if (decide (x ≤ 0) || items.isEmpty) = true then _ else if (items.size : Int) * x > (2 ^ 63 - 1) / 8 then _ else if Tuple.tupleTooMany ((items.size : Int) * x) = true then _ else _) _ _ _
    rw [if_neg c3, if_neg c4, if_neg c5]
    have hz : (List.foldl (fun x1 x2 => x1 ++ x2) #[] (List.replicate x.toNat items)).size ≤ sizeLine := by
      have : (List.replicate x.toNat items).foldl (fun x1 x2 => x1 ++ x2) #[] = (List.replicate x.toNat items.toList).flatten.toArray := by
        have := foldl_rep items.toList x.toNat []
        simpa using this
      rw [this, List.size_toArray, len_rep, sizeLine_eq]
      have e : items.toList.length = items.size := by simp
      rw [e]
      have e2 : ((x.toNat * items.size : Nat) : Int) = (items.size : Int) * x := by
        rw [Int.natCast_mul, Int.mul_comm]
        congr 1
        omega
      omega
    wp_walk
    exact ⟨_, rfl, h⟩
section
variable {X : Cx}
def rRepT (K : PySem.W.Frag) : R2 := fun x y H Q => ∃ (a : Addr) (k : Int) (xs : List V), x = .ref a ∧ y = .int k ∧ SqT K H a xs ∧ xs ≠ [] ∧ 0 ≤ k ∧ k < 1000 ∧ (xs.length : Int) * k ≤ 1000 ∧
  (k = 1 → Q (.ref a) H) ∧ (k ≠ 1 → ∀ p, H p = none → Q (.ref p) (upd H p (.tup (List.replicate k.toNat xs).flatten)))
theorem op_repT : OpR X (binaryOp .Mult) (rRepT X.K) := by
  intro pins s σ H x y v u Q I rx ry h
  obtain ⟨a, k, xs, rfl, rfl, hH, hne, h0, h1, h2, q1, q2⟩ := h
  cases rx
  obtain ⟨t, rfl⟩ := ry
  obtain ⟨its, r, pl, hz⟩ := I.tuple hH
  obtain ⟨⟨oc, dd, data, sl⟩, e, hc, n, hd⟩ := pl
  simp only at hc hd
  subst hc hd
  have hl := r.length
  have he : its.toArray.isEmpty = false := by
    cases r with
    | nil => exact absurd rfl hne
    | cons _ _ => rfl
  refine wpAny_binaryOp_repeat_ref (T := "tuple") (U := "int") (by decide) ⟨_, e, rfl⟩ (fun s' => typeIs_int s' k t) noFill_tuple_mul F.fills_int_mul F.slot_int_rmul repeat_tuple F.slot_int_index.lookup
    (call_meets F.slot_int_rmul (typeIs_int s k t) F.entry_int_rmul (F.args_int_rmul_2 _ _) (int_rmul_tuple k t a its.toArray n dd sl) ⟨e, rfl, ⟨_, e, rfl⟩, ?_⟩)
  by_cases k1 : k = 1
  · subst k1
    exact call_meets F.slot_tuple_mul ⟨_, e, rfl⟩ F.entry_tuple_mul (F.args_tuple_mul_2 _ _) (tuple_mul_one a its.toArray n dd sl t) ⟨e, .ref a, H, I, rfl, q1 rfl⟩
  · by_cases k0 : k = 0
    · subst k0
      refine call_meets F.slot_tuple_mul ⟨_, e, rfl⟩ F.entry_tuple_mul (F.args_tuple_mul_2 _ _) (tuple_mul_none a its.toArray n dd sl t he) ⟨e, .ref s.heap.objs.size, _, I.laid (t' := s.toks) (o := .tup []) (fun b ob q => Heap.get?_push_of_some _ q) (Nat.le_refl _) ?_, rfl, ?_⟩
      · exact ⟨Nat.zero_le _, [], .nil, IsTup.new _ _⟩
      · exact q2 k1 _ (I.hok.fresh (Nat.le_refl _))
    · refine call_meets F.slot_tuple_mul ⟨_, e, rfl⟩ F.entry_tuple_mul (F.args_tuple_mul_2 _ _) (tuple_mul_many a its.toArray n dd sl k t he (by omega) h1 (by rw [List.size_toArray, ← hl]; exact h2)) ⟨e, ?_⟩
      have hnew : List.foldl (fun x1 x2 => x1 ++ x2) #[] (List.replicate k.toNat its.toArray) = (List.replicate k.toNat its).flatten.toArray := by
        have := foldl_rep its k.toNat []
        rw [List.nil_append] at this
        exact this
      rw [hnew]
      refine ⟨.ref s.heap.objs.size, _, I.laid (t' := s.toks) (o := .tup (List.replicate k.toNat xs).flatten) (fun b ob q => Heap.get?_push_of_some _ q) (Nat.le_refl _) ?_, rfl, q2 k1 _ (I.hok.fresh (Nat.le_refl _))⟩
      refine ⟨?_, _, r.rep k.toNat, IsTup.new _ _⟩
      rw [len_rep, sizeLine_eq]
      have e2 : ((k.toNat * xs.length : Nat) : Int) = (xs.length : Int) * k := by
        rw [Int.natCast_mul, Int.mul_comm]
        congr 1
        omega
      omega
end
end L2
set_option Elab.async false
set_option linter.all false
set_option maxRecDepth 100000
set_option maxHeartbeats 4000000
namespace My
open PySem L2
def fold (t : Int) : Int := if t = 0 then 0 else (t - 1) % 65535 + 1
theorem fold_in {t : Int} (h : 0 ≤ t) : 0 ≤ fold t ∧ fold t ≤ 65535 ∧ (fold t - t) % 65535 = 0 ∧ (fold t = 0 ↔ t = 0) := by
  unfold fold; split <;> omega
theorem fold_small {t : Int} (h : 0 ≤ t) (h1 : t ≤ 65535) : fold t = t := by
  unfold fold; split <;> omega
theorem fold_step {t : Int} (h : 65535 < t) : fold (t % 65536 + t / 65536) = fold t ∧ 0 ≤ t % 65536 + t / 65536 ∧ t % 65536 + t / 65536 < t := by
  unfold fold
  rw [if_neg (by omega), if_neg (by omega)]
  omega
def wsum : List Int → Int
  | [] => 0
  | [a] => 256 * a
  | a :: b :: r => 256 * a + b + wsum r
def evens : List Int → List Int
  | [] => []
  | [a] => [a]
  | a :: _ :: r => a :: evens r
def odds : List Int → List Int
  | [] => []
  | [_] => []
  | _ :: b :: r => b :: odds r
theorem wsum_eq : ∀ ns : List Int, 256 * (evens ns).sum + (odds ns).sum = wsum ns
  | [] => rfl
  | [a] => by simp [evens, odds, wsum]
  | a :: b :: r => by
    have := wsum_eq r
    simp only [evens, odds, wsum, List.sum_cons]
    omega
theorem wsum_nn : ∀ {ns : List Int}, (∀ z ∈ ns, 0 ≤ z) → 0 ≤ wsum ns
  | [], _ => by simp [wsum]
  | [a], h => by have := h a (by simp); simp only [wsum]; omega
  | a :: b :: r, h => by
    have h1 := h a (by simp)
    have h2 := h b (by simp)
    have h3 := wsum_nn (ns := r) fun z hz => h z (by simp [hz])
    simp only [wsum]; omega
theorem wsum_app : ∀ {ns ms : List Int}, ns.length % 2 = 0 → wsum (ns ++ ms) = wsum ns + wsum ms
  | [], ms, _ => by simp [wsum]
  | [a], ms, h => by simp at h
  | a :: b :: r, ms, h => by
    have := wsum_app (ns := r) (ms := ms) (by simp only [List.length_cons] at h; omega)
    show wsum (a :: b :: (r ++ ms)) = _
    simp only [wsum, this]
    omega
theorem fold_close {w : Int} (h : 0 ≤ w) : fold (w + (256 * ((65535 - fold w) / 256) + (65535 - fold w) % 256)) = 65535 := by
  have e : 256 * ((65535 - fold w) / 256) + (65535 - fold w) % 256 = 65535 - fold w := by omega
  rw [e]
  unfold fold
  split <;> split <;> omega
theorem pick_evens : ∀ (m : Nat) (ns : List Int), ns.length ≤ 2 * m → ((List.range m).map fun k => 2 * k).filterMap (fun i => (ns.map V.int)[i]?) = (evens ns).map V.int
  | 0, ns, h => by
    have : ns = [] := List.length_eq_zero_iff.mp (by omega)
    subst this; rfl
  | m + 1, ns, h => by
    rw [List.range_succ_eq_map, List.map_cons, List.map_map]
    have shift : ∀ (xs : List Int), (List.map ((fun k => 2 * k) ∘ Nat.succ) (List.range m)).filterMap (fun i => (xs.map V.int)[i]?) = ((List.range m).map fun k => 2 * k).filterMap (fun i => ((xs.drop 2).map V.int)[i]?) := fun xs => by
      rw [List.filterMap_map, List.filterMap_map]
      congr 1
      funext k
      show (xs.map V.int)[2 * (k + 1)]? = ((xs.drop 2).map V.int)[2 * k]?
      rw [List.getElem?_map, List.getElem?_map, List.getElem?_drop]
      congr 2
      omega
    match ns, h with
    | [], _ =>
      have := shift []
      rw [List.filterMap_cons_none (by rfl), this, pick_evens m _ (by simp)]
      rfl
    | [a], _ =>
      have := shift [a]
      rw [List.filterMap_cons_some (b := V.int a) (by rfl), this, pick_evens m _ (by simp)]
      rfl
    | a :: b :: r, h =>
      have := shift (a :: b :: r)
      rw [List.filterMap_cons_some (b := V.int a) (by rfl), this, pick_evens m _ (by simp only [List.length_cons] at h; simp; omega)]
      rfl
theorem odds_eq : ∀ ns : List Int, odds ns = evens (ns.drop 1)
  | [] => rfl
  | [_] => rfl
  | [_, _] => rfl
  | _ :: b :: c :: r => by
    have := odds_eq (c :: r)
    simp only [odds, List.drop, evens] at *
    rw [this]
theorem cut_evens (ns : List Int) : pickV (ns.map V.int) none none (some 2) = (evens ns).map V.int := by
  unfold pickV sliceBounds sliceRange
  simp only [Option.getD_some, List.length_map, show ((2 : Int) > 0) = True from eq_true (by decide), if_true]
  have e : (if (0 : Int) < (ns.length : Int) then ((ns.length : Int) - 0 + 2 - 1) / 2 else 0).toNat = (ns.length + 1) / 2 := by split <;> omega
  rw [e]
  have e2 : (fun k : Nat => ((0 : Int) + 2 * (k : Int)).toNat) = fun k => 2 * k := by funext k; omega
  rw [e2]
  exact pick_evens _ ns (by omega)
theorem cut_odds (ns : List Int) : pickV (ns.map V.int) (some 1) none (some 2) = (odds ns).map V.int := by
  unfold pickV sliceBounds sliceRange
  simp only [Option.getD_some, List.length_map, show ((2 : Int) > 0) = True from eq_true (by decide), show ((1 : Int) < 0) = False from eq_false (by decide), if_true, if_false]
  rw [odds_eq]
  by_cases h : ns.length = 0
  · have : ns = [] := List.length_eq_zero_iff.mp h
    subst this; rfl
  · have e0 : max (0 : Int) (min 1 (ns.length : Int)) = 1 := by omega
    rw [e0]
    have e : (if (1 : Int) < (ns.length : Int) then ((ns.length : Int) - 1 + 2 - 1) / 2 else 0).toNat = ns.length / 2 := by split <;> omega
    rw [e, ← pick_evens (ns.length / 2) (ns.drop 1) (by rw [List.length_drop]; omega), List.filterMap_map, List.filterMap_map]
    congr 1
    funext k
    show (ns.map V.int)[((1 : Int) + 2 * (k : Int)).toNat]? = ((ns.drop 1).map V.int)[2 * k]?
    rw [List.getElem?_map, List.getElem?_map, List.getElem?_drop]
    congr 2
theorem evens_len : ∀ ns : List Int, (evens ns).length ≤ ns.length
  | [] => Nat.le_refl _
  | [_] => Nat.le_refl _
  | _ :: _ :: r => by have := evens_len r; simp only [evens, List.length_cons]; omega
theorem odds_len : ∀ ns : List Int, (odds ns).length ≤ ns.length
  | [] => Nat.le_refl _
  | [_] => Nat.zero_le _
  | _ :: _ :: r => by have := odds_len r; simp only [odds, List.length_cons]; omega
def wpre (ns : List Int) : Nat → Int
  | 0 => 0
  | i + 1 => wpre ns i + ns.getD i 0 * (if i % 2 = 0 then 256 else 1)
theorem wpre_two (a b : Int) (r : List Int) : ∀ i, wpre (a :: b :: r) (i + 2) = 256 * a + b + wpre r i
  | 0 => by simp [wpre]; omega
  | i + 1 => by
    have e : (i + 2) % 2 = i % 2 := by omega
    rw [wpre, wpre_two a b r i]
    show _ + r.getD i 0 * (if (i + 2) % 2 = 0 then 256 else 1) = 256 * a + b + (wpre r i + r.getD i 0 * (if i % 2 = 0 then 256 else 1))
    rw [e]
    omega
theorem wpre_all : ∀ ns : List Int, wpre ns ns.length = wsum ns
  | [] => rfl
  | [a] => by simp [wpre, wsum]; omega
  | a :: b :: r => by
    show wpre (a :: b :: r) (r.length + 2) = _
    rw [wpre_two, wpre_all r]
    rfl
end My
set_option Elab.async false
set_option linter.all false
set_option maxRecDepth 100000
namespace L2
open PySem PySem.Spec PyProof.Rows
section
variable {κ : Type} [DecidableEq κ]
def valV (kvs : List (κ × V)) (k : κ) : Option V := (kvs.find? fun kv => decide (kv.1 = k)).map (·.2)
def putK (kvs : List (κ × V)) (k : κ) (v : V) : List (κ × V) :=
  if (kvs.any fun kv => decide (kv.1 = k)) = true then kvs.map (fun kv => if kv.1 = k then (kv.1, v) else kv) else kvs ++ [(k, v)]
def dropK (kvs : List (κ × V)) (k : κ) : List (κ × V) := kvs.filter fun kv => decide (kv.1 ≠ k)
theorem valV_pos {p : κ × V} {r : List (κ × V)} {k : κ} (e : p.1 = k) : valV (p :: r) k = some p.2 := by simp [valV, List.find?_cons, e]
theorem valV_neg {p : κ × V} {r : List (κ × V)} {k : κ} (e : ¬ p.1 = k) : valV (p :: r) k = valV r k := by simp [valV, List.find?_cons, e]
theorem valV_any (k : κ) : ∀ kvs : List (κ × V), (kvs.any fun kv => decide (kv.1 = k)) = (valV kvs k).isSome
  | [] => rfl
  | p :: r => by
    rw [List.any_cons]
    by_cases e : p.1 = k
    · simp only [valV_pos e, decide_eq_true e, Bool.true_or, Option.isSome_some]
    · rw [valV_neg e, decide_eq_false e, Bool.false_or]; exact valV_any k r
theorem RelO.isSome_eq {o : Option V} {u : Option Value} (r : RelO o u) : o.isSome = u.isSome := by
  cases o with
  | none => cases u with
    | none => rfl
    | some _ => exact (show False from r).elim
  | some _ => cases u with
    | none => exact (show False from r).elim
    | some _ => rfl
theorem RelO.getD {o : Option V} {u : Option Value} {d : V} {d' : Value} (r : RelO o u) (rd : RelV d d') : RelV (o.getD d) (u.getD d') := by
  cases o with
  | none => cases u with
    | none => exact rd
    | some _ => exact (show False from r).elim
  | some _ => cases u with
    | none => exact (show False from r).elim
    | some _ => exact r
theorem KV.val {kvs : List (κ × V)} {vs : List (κ × Value)} (r : KV kvs vs) (k : κ) : RelO (valV kvs k) (valueAt vs k) := by
  unfold KV at r
  induction r with
  | nil => exact True.intro
  | @cons p q ps qs h t ih =>
    obtain ⟨h1, h2⟩ := h
    by_cases e : p.1 = k
    · have e' : q.1 = k := h1.symm.trans e
      have b : valueAt (q :: qs) k = some q.2 := by simp [valueAt, List.find?_cons, e']
      rw [valV_pos e, b]; exact h2
    · have e' : ¬ q.1 = k := fun z => e (h1.trans z)
      have b : valueAt (q :: qs) k = valueAt qs k := by simp [valueAt, List.find?_cons, e']
      rw [valV_neg e, b]; exact ih
theorem KV.any {kvs : List (κ × V)} {vs : List (κ × Value)} (r : KV kvs vs) (k : κ) : (kvs.any fun kv => decide (kv.1 = k)) = vs.any fun kv => decide (kv.1 = k) := by
  unfold KV at r
  induction r with
  | nil => rfl
  | cons h t ih => rw [List.any_cons, List.any_cons, ih, h.1]
theorem KV.repl {kvs : List (κ × V)} {vs : List (κ × Value)} (r : KV kvs vs) (k : κ) {y : V} {u : Value} (ry : RelV y u) :
    KV (kvs.map fun kv => if kv.1 = k then (kv.1, y) else kv) (vs.map fun kv => if kv.1 = k then (kv.1, u) else kv) := by
  unfold KV at r ⊢
  induction r with
  | nil => exact .nil
  | @cons p q ps qs h t ih =>
    rw [List.map_cons, List.map_cons]
    refine .cons ?_ ih
    obtain ⟨h1, h2⟩ := h
    by_cases e : p.1 = k
    · rw [if_pos e, if_pos (h1.symm.trans e)]; exact ⟨h1, ry⟩
    · rw [if_neg e, if_neg (fun z => e (h1.trans z))]; exact ⟨h1, h2⟩
theorem KV.put {kvs : List (κ × V)} {vs : List (κ × Value)} (r : KV kvs vs) (k : κ) {y : V} {u : Value} (ry : RelV y u) : KV (putK kvs k y) (stored vs k u) := by
  unfold putK stored
  rw [r.any k]
  by_cases e : (vs.any fun kv => decide (kv.1 = k)) = true
  · rw [if_pos e, if_pos e]; exact r.repl k ry
  · rw [if_neg e, if_neg e]; exact Paired.snoc r ⟨rfl, ry⟩
theorem KV.drop {kvs : List (κ × V)} {vs : List (κ × Value)} (r : KV kvs vs) (k : κ) : KV (dropK kvs k) (without vs k) := by
  unfold KV at r ⊢
  unfold dropK without
  induction r with
  | nil => exact .nil
  | @cons p q ps qs h t ih =>
    obtain ⟨h1, h2⟩ := h
    rw [List.filter_cons, List.filter_cons]
    by_cases e : p.1 = k
    · have a : ¬ decide (p.1 ≠ k) = true := by simp [e]
      have b : ¬ decide (q.1 ≠ k) = true := by simp [h1.symm.trans e]
      rw [if_neg a, if_neg b]; exact ih
    · have e' : ¬ q.1 = k := fun z => e (h1.trans z)
      have a : decide (p.1 ≠ k) = true := by simp [e]
      have b : decide (q.1 ≠ k) = true := by simp [e']
      rw [if_pos a, if_pos b]; exact .cons ⟨h1, h2⟩ ih
theorem KV.length {kvs : List (κ × V)} {vs : List (κ × Value)} (r : KV kvs vs) : kvs.length = vs.length := Paired.length r
end
abbrev KT (H : Hp) : List (List Key × V) → List (List Key × Addr × Value) → Prop := Paired fun p q => p.1 = q.1 ∧ H q.2.1 = some (.tup (p.1.map kV)) ∧ RelV p.2 q.2.2
theorem KT.val {H : Hp} {kvs : List (List Key × V)} {xs : List (List Key × Addr × Value)} (r : KT H kvs xs) (k : List Key) : RelO (valV kvs k) ((atKey xs k).map (·.2)) := by
  induction r with
  | nil => exact True.intro
  | @cons p q ps qs h t ih =>
    obtain ⟨h1, _, h2⟩ := h
    by_cases e : p.1 = k
    · have e' : q.1 = k := h1.symm.trans e
      have b : atKey (q :: qs) k = some q.2 := by simp [atKey, List.find?_cons, e']
      rw [valV_pos e, b]; exact h2
    · have e' : ¬ q.1 = k := fun z => e (h1.trans z)
      have b : atKey (q :: qs) k = atKey qs k := by simp [atKey, List.find?_cons, e']
      rw [valV_neg e, b]; exact ih
theorem KT.repl {H : Hp} {kvs : List (List Key × V)} {xs : List (List Key × Addr × Value)} (r : KT H kvs xs) (k : List Key) {y : V} {u : Value} (ry : RelV y u) :
    KT H (kvs.map fun kv => if kv.1 = k then (kv.1, y) else kv) (xs.map (putAt k u)) := by
  induction r with
  | nil => exact .nil
  | @cons p q ps qs h t ih =>
    rw [List.map_cons, List.map_cons]
    refine .cons ?_ ih
    obtain ⟨h1, h2, h3⟩ := h
    unfold putAt
    by_cases e : p.1 = k
    · rw [if_pos e, if_pos (h1.symm.trans e)]; exact ⟨h1, h2, ry⟩
    · rw [if_neg e, if_neg (fun z => e (h1.trans z))]; exact ⟨h1, h2, h3⟩
theorem KT.put {H : Hp} {kvs : List (List Key × V)} {xs : List (List Key × Addr × Value)} (r : KT H kvs xs) (k : List Key) {b : Addr} {y : V} {u : Value} (hb : H b = some (.tup (k.map kV))) (ry : RelV y u) :
    KT H (putK kvs k y) (storedH xs k b u) := by
  have e : (kvs.any fun kv => decide (kv.1 = k)) = (atKey xs k).isSome := by
    rw [valV_any, (r.val k).isSome_eq, Option.isSome_map]
  unfold putK storedH
  rw [e]
  by_cases q : (atKey xs k).isSome = true
  · rw [if_pos q, if_pos q]; exact r.repl k ry
  · rw [if_neg q, if_neg q]; exact Paired.snoc r ⟨rfl, hb, ry⟩
theorem KT.keeps {H H' : Hp} {kvs : List (List Key × V)} {xs : List (List Key × Addr × Value)} (r : KT H kvs xs) (ht : ∀ b ys, H b = some (.tup ys) → H' b = some (.tup ys)) : KT H' kvs xs :=
  Paired.mapP r fun _ _ z => ⟨z.1, ht _ _ z.2.1, z.2.2⟩
section
variable {P : Program} {w : World} {H : Hp} {h : Heap} {a : Addr}
end
def DGet (H : Hp) (a : Addr) (y : V) (r : Option V) : Prop :=
  (∃ kvs k, Rd H a (.dK kvs) ∧ y = kV k ∧ r = valV kvs k) ∨ ∃ kvs k b, Rd H a (.dT kvs) ∧ y = .ref b ∧ H b = some (.tup (k.map kV)) ∧ r = valV kvs k
def DPut (H : Hp) (a : Addr) (y v : V) (H' : Hp) : Prop :=
  (∃ kvs k, H a = some (.dK kvs) ∧ y = kV k ∧ kvs.length < sizeLine ∧ H' = upd H a (.dK (putK kvs k v))) ∨
  ∃ kvs k b, H a = some (.dT kvs) ∧ y = .ref b ∧ H b = some (.tup (k.map kV)) ∧ kvs.length < sizeLine ∧ H' = upd H a (.dT (putK kvs k v))
theorem DGet.k {H : Hp} {a : Addr} {kvs : List (Key × V)} {k : Key} (e : H a = some (.dK kvs)) : DGet H a (kV k) (valV kvs k) := .inl ⟨kvs, k, .inl e, rfl, rfl⟩
theorem DGet.t {H : Hp} {a b : Addr} {kvs : List (List Key × V)} {k : List Key} (e : H a = some (.dT kvs)) (eb : H b = some (.tup (k.map kV))) : DGet H a (.ref b) (valV kvs k) := .inr ⟨kvs, k, b, .inl e, rfl, eb, rfl⟩
theorem DPut.k {H : Hp} {a : Addr} {kvs : List (Key × V)} {k : Key} {v : V} (e : H a = some (.dK kvs)) (hl : kvs.length < sizeLine) : DPut H a (kV k) v (upd H a (.dK (putK kvs k v))) := .inl ⟨kvs, k, e, rfl, hl, rfl⟩
theorem DPut.t {H : Hp} {a b : Addr} {kvs : List (List Key × V)} {k : List Key} {v : V} (e : H a = some (.dT kvs)) (eb : H b = some (.tup (k.map kV))) (hl : kvs.length < sizeLine) :
    DPut H a (.ref b) v (upd H a (.dT (putK kvs k v))) := .inr ⟨kvs, k, b, e, rfl, eb, hl, rfl⟩
section
variable {X : Cx} {pins : List (Addr × Obj)} {σ : St} {H : Hp} {s : Shared} {a : Addr} {y v : V} {u r : Value} {o : Option V} {A : Around} {E : Value → Shared → Prop}
theorem Inv.big (I : Inv X pins σ H s) : sysModules < s.heap.objs.size := by
  have h : mainGlobals < s.heap.objs.size := (I.mod.glob.keeps I.bk).lt
  exact Nat.lt_trans (by decide) h
end
section
variable {X : Cx} {pins : List (Addr × Obj)} {σ : St} {H : Hp} {s : Shared} {a : Addr} {kvs : List (Key × V)} {k : Key} {u : Value} {A : Around} {E : Value → Shared → Prop}
end
section
variable {X : Cx} {o i e value : Expr} {pos pos' tpos : Pos} {td ty tv : TE}
end
theorem dk_empty {P : Program} {w : World} {H : Hp} (h : Heap) (hb : sysModules < h.objs.size) : ObjOk P w H (h.push { cls := .type "dict", data := .dict #[] }) h.objs.size (.dK []) :=
  ⟨Nat.zero_le _, beq_eq_false_iff_ne.mpr (Ne.symm (Nat.ne_of_lt hb)), [], .nil, Heap.DictOf.new h⟩
def tDNewK : TE := fun _ H Q => ∀ p, H p = none → Q (.ref p) (upd H p (.dK []))
section
variable {X : Cx} {pos : Pos}
theorem pe_dnewK : PE X (.Dict [] [] pos) tDNewK := fun pins s σ H Q I h =>
  wpAny_Dict_empty ⟨.ref s.heap.objs.size, _, I.laid (a := s.heap.objs.size) (o := .dK []) (t' := s.toks) (fun _ _ q => Heap.get?_push_of_some _ q) (Nat.le_refl _) (dk_empty s.heap I.big), rfl, h _ (I.hok.fresh (Nat.le_refl _))⟩
end
structure M1 (X : Cx) (o : Expr) (m : Str) (apos : Pos) (e : Expr) (cpos : Pos) : Prop where
  base : attributeBase o m X.env (eval o X.env) = eval o X.env
  few : ((backTo cpos (starEach [e] X.env)).all (fun x => !x.1) && (backToKw cpos (keywordEach [] X.env)).all (fun x => x.1.isSome)
    && decide (([e] : List Expr).length + ([] : List Keyword).length + (if ([] : List Keyword).isEmpty then 0 else 1) < 30)) = true
  line : (apos.endLine == cpos.line) = true
  trees : backTo cpos (starEach [e] X.env) = [(false, eval e X.env)]
structure M2 (X : Cx) (o : Expr) (m : Str) (apos : Pos) (e f : Expr) (cpos : Pos) : Prop where
  base : attributeBase o m X.env (eval o X.env) = eval o X.env
  few : ((backTo cpos (starEach [e, f] X.env)).all (fun x => !x.1) && (backToKw cpos (keywordEach [] X.env)).all (fun x => x.1.isSome)
    && decide (([e, f] : List Expr).length + ([] : List Keyword).length + (if ([] : List Keyword).isEmpty then 0 else 1) < 30)) = true
  line : (apos.endLine == cpos.line) = true
  trees : backTo cpos (starEach [e, f] X.env) = [(false, eval e X.env), (false, eval f X.env)]
section
variable {X : Cx} {pins : List (Addr × Obj)} {σ : St} {H : Hp} {s : Shared} {a : Addr} {y d : V} {u r : Value} {o : Option V} {A : Around} {E : Value → Shared → Prop}
end
section
variable {X : Cx} {o e f : Expr} {apos cpos : Pos} {td ty tx : TE}
end
section
variable {X : Cx} {pins : List (Addr × Obj)} {σ : St} {H : Hp} {s : Shared} {a : Addr} {kvs : List (Key × V)} {A : Around} {E : Value → Shared → Prop}
end
section
variable {X : Cx} {pins : List (Addr × Obj)} {σ : St} {H : Hp} {s : Shared} {a : Addr} {y : V} {u : Value} {A : Around} {E : Value → Shared → Prop}
end
end L2
set_option Elab.async false
set_option linter.all false
set_option maxRecDepth 100000
set_option maxHeartbeats 4000000
namespace L2.MM
open PySem PySem.Spec PyProof.Rows
theorem nr {α : Sort _} {a b : α} (h : a = b) : a = b := h
inductive D where
  | non | bl (b : Bool) | int (i : Int) | str (x : Str) | ty (n : String)
  | scr (ns : List Int) | tup (xs : List D) | lst (xs : List D) | ref (l : Nat)
  deriving Inhabited
inductive Cell where
  | lst (xs : List D) | dK (kvs : List (Key × D)) | dT (kvs : List (List Key × D)) | ins (C : Str) (fs : List (Str × D))
abbrev Sto := List Cell
structure Bx where
  n : Nat
  m : Nat → Addr
  F : Addr → Prop
  os : List Addr
  ks : Addr → List Int → Prop
def Bx.ok (B : Bx) (a : Addr) : Prop := (∀ i, i < B.n → B.m i ≠ a) ∧ ¬ B.F a ∧ a ∉ B.os
mutual
def RepV (B : Bx) (H : Hp) : D → V → Prop
  | .non, v => v = .non
  | .bl b, v => v = .bl b
  | .int i, v => v = .int i
  | .str x, v => v = .str x
  | .ty n, v => v = .ty n
  | .scr ns, v => ∃ a, v = .ref a ∧ ((∃ o, H a = some (.frz o (.lst (ns.map V.int))) ∧ B.ok a) ∨ B.ks a ns)
  | .tup xs, v => ∃ a vs, v = .ref a ∧ H a = some (.tup vs) ∧ B.ok a ∧ RepL B H xs vs
  | .lst xs, v => ∃ a vs, v = .ref a ∧ H a = some (.lst vs) ∧ B.ok a ∧ RepL B H xs vs
  | .ref l, v => l < B.n ∧ v = .ref (B.m l)
def RepL (B : Bx) (H : Hp) : List D → List V → Prop
  | [], vs => vs = []
  | d :: ds, vs => ∃ v r, vs = v :: r ∧ RepV B H d v ∧ RepL B H ds r
end
abbrev RepKV {κ : Type} (B : Bx) (H : Hp) : List (κ × D) → List (κ × V) → Prop := Paired fun p q => p.1 = q.1 ∧ RepV B H p.2 q.2
structure ExtS (B B' : Bx) (H H' : Hp) : Prop where
  n : B.n ≤ B'.n
  m : ∀ i, i < B.n → B'.m i = B.m i
  fr : ∀ i, B.n ≤ i → i < B'.n → H (B'.m i) = none
  keep : ∀ a o, H a = some o → (∀ i, i < B.n → B.m i ≠ a) → a ∉ B.os → H' a = some o
  sm : ∀ a, H a ≠ none → H' a ≠ none
  os : ∀ a, a ∈ B'.os → a ∈ B.os ∨ H a = none
  F : B'.F = B.F
  ks : B'.ks = B.ks
structure ExtE (B B' : Bx) (H H' : Hp) : Prop extends ExtS B B' H H' where
  osE : B'.os = B.os
  ko : ∀ a o, a ∈ B.os → (∀ i, i < B.n → B.m i ≠ a) → H a = some o → H' a = some o
theorem ExtS.refl (B : Bx) (H : Hp) : ExtS B B H H := ⟨Nat.le_refl _, fun _ _ => rfl, fun i h h' => absurd h' (Nat.not_lt.mpr h), fun _ _ h _ _ => h, fun _ h => h, fun _ h => .inl h, rfl, rfl⟩
theorem ExtE.refl (B : Bx) (H : Hp) : ExtE B B H H := ⟨ExtS.refl B H, rfl, fun _ _ _ _ h => h⟩
section
variable {B B' B'' : Bx} {H H' H'' : Hp}
theorem Bx.ok.ext {a : Addr} {o : HO} (k : B.ok a) (E : ExtS B B' H H') (h : H a = some o) : B'.ok a ∧ H' a = some o := by
  refine ⟨⟨fun i hi e => ?_, by rw [E.F]; exact k.2.1, fun z => ?_⟩, E.keep a o h k.1 k.2.2⟩
  · by_cases q : i < B.n
    · rw [E.m i q] at e; exact k.1 i q e
    · have := E.fr i (Nat.not_lt.mp q) hi
      rw [e, h] at this; cases this
  · rcases E.os a z with z | z
    · exact k.2.2 z
    · rw [h] at z; cases z
theorem ExtS.trans (E : ExtS B B' H H') (E' : ExtS B' B'' H' H'') : ExtS B B'' H H'' where
  n := Nat.le_trans E.n E'.n
  m := fun i hi => (E'.m i (Nat.lt_of_lt_of_le hi E.n)).trans (E.m i hi)
  fr := fun i h1 h2 => by
    by_cases q : i < B'.n
    · rw [E'.m i q]; exact E.fr i h1 q
    · cases z : H (B''.m i) with
      | none => rfl
      | some o => exact absurd (E'.fr i (Nat.not_lt.mp q) h2) (E.sm _ (by rw [z]; simp))
  keep := fun a o h h1 h2 => by
    have h' := E.keep a o h h1 h2
    refine E'.keep a o h' (fun i hi e => ?_) (fun z => ?_)
    · by_cases q : i < B.n
      · rw [E.m i q] at e; exact h1 i q e
      · have := E.fr i (Nat.not_lt.mp q) hi
        rw [e, h] at this; cases this
    · rcases E.os a z with z | z
      · exact h2 z
      · rw [h] at z; cases z
  sm := fun a h => E'.sm a (E.sm a h)
  os := fun a h => by
    rcases E'.os a h with z | z
    · exact E.os a z
    · right
      cases q : H a with
      | none => rfl
      | some o => exact absurd z (E.sm a (by rw [q]; simp))
  F := E'.F.trans E.F
  ks := E'.ks.trans E.ks
theorem ExtE.trans (E : ExtE B B' H H') (E' : ExtE B' B'' H' H'') : ExtE B B'' H H'' where
  toExtS := E.toExtS.trans E'.toExtS
  osE := E'.osE.trans E.osE
  ko := fun a o ha h1 h => by
    have h' := E.ko a o ha h1 h
    refine E'.ko a o (by rw [E.osE]; exact ha) (fun i hi e => ?_) h'
    by_cases q : i < B.n
    · rw [E.m i q] at e; exact h1 i q e
    · have := E.fr i (Nat.not_lt.mp q) hi
      rw [e, h] at this; cases this
mutual
theorem RepV.ext (E : ExtS B B' H H') : ∀ {d : D} {v : V}, RepV B H d v → RepV B' H' d v
  | .non, _, h => h
  | .bl _, _, h => h
  | .int _, _, h => h
  | .str _, _, h => h
  | .ty _, _, h => h
  | .scr _, _, h => by
    obtain ⟨a, e, h⟩ := h
    refine ⟨a, e, ?_⟩
    rcases h with ⟨o, h, k⟩ | h
    · obtain ⟨k', h'⟩ := k.ext E h
      exact .inl ⟨o, h', k'⟩
    · exact .inr (by rw [E.ks]; exact h)
  | .tup _, _, h => by
    obtain ⟨a, vs, e, h, k, l⟩ := h
    obtain ⟨k', h'⟩ := k.ext E h
    exact ⟨a, vs, e, h', k', RepL.ext E l⟩
  | .lst _, _, h => by
    obtain ⟨a, vs, e, h, k, l⟩ := h
    obtain ⟨k', h'⟩ := k.ext E h
    exact ⟨a, vs, e, h', k', RepL.ext E l⟩
  | .ref l, _, h => ⟨Nat.lt_of_lt_of_le h.1 E.n, by rw [h.2, E.m l h.1]⟩
theorem RepL.ext (E : ExtS B B' H H') : ∀ {ds : List D} {vs : List V}, RepL B H ds vs → RepL B' H' ds vs
  | [], _, h => h
  | _ :: _, _, h => by
    obtain ⟨v, r, e, hv, hr⟩ := h
    exact ⟨v, r, e, RepV.ext E hv, RepL.ext E hr⟩
end
theorem RepL.len : ∀ {ds : List D} {vs : List V}, RepL B H ds vs → vs.length = ds.length
  | [], _, h => by cases (show _ = [] from h); rfl
  | _ :: _, _, h => by
    obtain ⟨v, r, rfl, _, hr⟩ := h
    simp [RepL.len hr]
theorem RepL.app : ∀ {ds es : List D} {vs us : List V}, RepL B H ds vs → RepL B H es us → RepL B H (ds ++ es) (vs ++ us)
  | [], _, _, _, h, q => by cases (show _ = [] from h); exact q
  | _ :: _, _, _, _, h, q => by
    obtain ⟨v, r, rfl, hv, hr⟩ := h
    exact ⟨v, _, rfl, hv, RepL.app hr q⟩
theorem RepL.get : ∀ {ds : List D} {vs : List V} {i : Nat} {d : D}, RepL B H ds vs → ds[i]? = some d → ∃ v, vs[i]? = some v ∧ RepV B H d v
  | [], _, _, _, _, e => by simp at e
  | _ :: _, _, 0, _, h, e => by
    obtain ⟨v, r, rfl, hv, _⟩ := h
    simp at e; subst e
    exact ⟨v, rfl, hv⟩
  | _ :: _, _, i + 1, _, h, e => by
    obtain ⟨v, r, rfl, _, hr⟩ := h
    obtain ⟨w, q1, q2⟩ := RepL.get (i := i) hr (by simpa using e)
    exact ⟨w, by simpa using q1, q2⟩
theorem RepL.take : ∀ {ds : List D} {vs : List V} (n : Nat), RepL B H ds vs → RepL B H (ds.take n) (vs.take n)
  | _, _, 0, _ => by rw [List.take_zero, List.take_zero]; exact rfl
  | [], _, n + 1, h => by cases (show _ = [] from h); exact rfl
  | _ :: _, _, n + 1, h => by
    obtain ⟨v, r, rfl, hv, hr⟩ := h
    exact ⟨v, _, rfl, hv, RepL.take n hr⟩
theorem RepL.drop : ∀ {ds : List D} {vs : List V} (n : Nat), RepL B H ds vs → RepL B H (ds.drop n) (vs.drop n)
  | _, _, 0, h => h
  | [], _, n + 1, h => by cases (show _ = [] from h); exact rfl
  | _ :: _, _, n + 1, h => by
    obtain ⟨v, r, rfl, hv, hr⟩ := h
    exact RepL.drop n hr
theorem RepL.set {d : D} {v : V} (q : RepV B H d v) : ∀ {ds : List D} {vs : List V} (i : Nat), RepL B H ds vs → RepL B H (ds.set i d) (vs.set i v)
  | [], _, _, h => by cases (show _ = [] from h); exact rfl
  | _ :: _, _, 0, h => by
    obtain ⟨w, r, rfl, _, hr⟩ := h
    exact ⟨v, r, rfl, q, hr⟩
  | _ :: _, _, i + 1, h => by
    obtain ⟨w, r, rfl, hw, hr⟩ := h
    exact ⟨w, _, rfl, hw, RepL.set q i hr⟩
theorem RepL.map {α : Type} {f : α → D} {g : α → V} (q : ∀ a, RepV B H (f a) (g a)) : ∀ l : List α, RepL B H (l.map f) (l.map g)
  | [] => rfl
  | a :: l => ⟨_, _, rfl, q a, RepL.map q l⟩
theorem RepKV.ext {κ : Type} (E : ExtS B B' H H') : ∀ {ks : List (κ × D)} {vs : List (κ × V)}, RepKV B H ks vs → RepKV B' H' ks vs
  | _, _, .nil => .nil
  | _, _, .cons h t => .cons ⟨h.1, RepV.ext E h.2⟩ (RepKV.ext E t)
end
structure Mo where
  cl : Str → Addr
  K : PySem.W.Frag
def KL (K : PySem.W.Frag) (a : Addr) (ns : List Int) : Prop := ∃ (o : Obj) (its : Array Value) (n : Nat), K.lookup a = some o ∧ o.cls = .type "list" ∧ o.dict = none ∧ o.data = .seq its n ∧ its.size ≤ sizeLine ∧ Vals (ns.map V.int) its.toList
def CellOk (cl : Mo) (B : Bx) (H : Hp) (a : Addr) : Cell → Prop
  | .lst xs => ∃ vs, H a = some (.lst vs) ∧ RepL B H xs vs
  | .dK kvs => ∃ vs, H a = some (.dK vs) ∧ RepKV B H kvs vs
  | .dT kvs => ∃ vs, H a = some (.dT vs) ∧ RepKV B H kvs vs
  | .ins C fs => ∃ dx vs, H a = some (.ins (cl.cl C) dx vs) ∧ RepKV B H fs vs
structure Good (cl : Mo) (B : Bx) (θ : Sto) (H : Hp) : Prop where
  len : θ.length = B.n
  inj : ∀ i j, i < B.n → j < B.n → B.m i = B.m j → i = j
  cel : ∀ i c, θ[i]? = some c → CellOk cl B H (B.m i) c
  cF : ∀ i, i < B.n → ¬ B.F (B.m i) ∧ B.m i ∉ B.os
  Fs : ∀ a, B.F a → H a ≠ none
  oS : ∀ a, a ∈ B.os → H a ≠ none
  oF : ∀ a, a ∈ B.os → ¬ B.F a
  kc : ∀ a ns, B.ks a ns → KL cl.K a ns
section
variable {cl : Mo} {B B' B'' : Bx} {H H' H'' : Hp} {θ θ' : Sto}
theorem CellOk.ext {a : Addr} {c : Cell} (k : CellOk cl B H a c) (E : ExtS B B' H H') (h : ∀ o, H a = some o → H' a = some o) : CellOk cl B' H' a c := by
  cases c with
  | lst xs => obtain ⟨vs, e, r⟩ := k; exact ⟨vs, h _ e, r.ext E⟩
  | dK kvs => obtain ⟨vs, e, r⟩ := k; exact ⟨vs, h _ e, r.ext E⟩
  | dT kvs => obtain ⟨vs, e, r⟩ := k; exact ⟨vs, h _ e, r.ext E⟩
  | ins C fs => obtain ⟨dx, vs, e, r⟩ := k; exact ⟨dx, vs, h _ e, r.ext E⟩
theorem CellOk.there {a : Addr} {c : Cell} (k : CellOk cl B H a c) : H a ≠ none := by
  cases c with
  | lst xs => obtain ⟨vs, e, r⟩ := k; rw [e]; simp
  | dK kvs => obtain ⟨vs, e, r⟩ := k; rw [e]; simp
  | dT kvs => obtain ⟨vs, e, r⟩ := k; rw [e]; simp
  | ins C fs => obtain ⟨dx, vs, e, r⟩ := k; rw [e]; simp
theorem Good.there (G : Good cl B θ H) {i : Nat} (hi : i < B.n) : H (B.m i) ≠ none := by
  have : i < θ.length := by rw [G.len]; exact hi
  exact (G.cel i _ (List.getElem?_eq_getElem this)).there
theorem Good.okNone (G : Good cl B θ H) {p : Addr} (h : H p = none) : B.ok p :=
  ⟨fun i hi e => G.there hi (by rw [e]; exact h), fun z => G.Fs p z h, fun z => G.oS p z h⟩
theorem ext_new (G : Good cl B θ H) {p : Addr} (h : H p = none) (o : HO) : ExtE B B H (upd H p o) := by
  have ne : ∀ a u, H a = some u → upd H p o a = some u := fun a u e => by rw [upd_ne (ne_of_none e h)]; exact e
  exact ⟨⟨Nat.le_refl _, fun _ _ => rfl, fun i h h' => absurd h' (Nat.not_lt.mpr h), fun a u e _ _ => ne a u e, fun a e => by
    cases q : H a with
    | none => exact absurd q e
    | some u => rw [ne a u q]; simp, fun _ h => .inl h, rfl, rfl⟩, rfl, fun a u _ _ e => ne a u e⟩
theorem good_new (G : Good cl B θ H) {p : Addr} (h : H p = none) (o : HO) : Good cl B θ (upd H p o) := by
  have E := ext_new G h o
  exact ⟨G.len, G.inj, fun i c e => (G.cel i c e).ext E.toExtS fun u q => by rw [upd_ne (ne_of_none q h)]; exact q, G.cF, fun a z => E.sm a (G.Fs a z), fun a z => E.sm a (G.oS a z), G.oF, G.kc⟩
theorem rep_lst (G : Good cl B θ H) {p : Addr} (h : H p = none) {xs : List D} {vs : List V} (r : RepL B H xs vs) : RepV B (upd H p (.lst vs)) (.lst xs) (.ref p) :=
  ⟨p, vs, rfl, upd_same, G.okNone h, r.ext (ext_new G h _).toExtS⟩
theorem rep_tup (G : Good cl B θ H) {p : Addr} (h : H p = none) {xs : List D} {vs : List V} (r : RepL B H xs vs) : RepV B (upd H p (.tup vs)) (.tup xs) (.ref p) :=
  ⟨p, vs, rfl, upd_same, G.okNone h, r.ext (ext_new G h _).toExtS⟩
def Bx.push (B : Bx) (p : Addr) : Bx := { B with n := B.n + 1, m := fun i => if i = B.n then p else B.m i }
theorem ext_cell (G : Good cl B θ H) {p : Addr} (h : H p = none) (o : HO) : ExtE B (B.push p) H (upd H p o) := by
  have E := ext_new G h o
  refine ⟨⟨Nat.le_succ _, fun i hi => if_neg (Nat.ne_of_lt hi), fun i h1 h2 => ?_, E.keep, E.sm, fun _ h => .inl h, rfl, rfl⟩, rfl, E.ko⟩
  have e : i = B.n := Nat.le_antisymm (Nat.le_of_lt_succ h2) h1
  show H (if i = B.n then p else B.m i) = none
  rw [if_pos e]; exact h
theorem good_cell (G : Good cl B θ H) {p : Addr} (h : H p = none) {o : HO} {c : Cell} (k : CellOk cl (B.push p) (upd H p o) p c) : Good cl (B.push p) (θ ++ [c]) (upd H p o) := by
  have E := ext_cell G h o
  have hm : ∀ i, i < B.n → (B.push p).m i = B.m i := fun i hi => if_neg (Nat.ne_of_lt hi)
  have hn : (B.push p).m B.n = p := if_pos rfl
  have cs : ∀ i, i < (B.push p).n → i < B.n ∨ i = B.n := fun i hi => Nat.lt_succ_iff_lt_or_eq.mp hi
  have ok := G.okNone h
  refine ⟨by rw [List.length_append, G.len]; rfl, fun i j hi hj e => ?_, fun i c' e => ?_, fun i hi => ?_, fun a z => E.sm a (G.Fs a z), fun a z => E.sm a (G.oS a z), G.oF, G.kc⟩
  · rcases cs i hi with a | a <;> rcases cs j hj with b | b
    · rw [hm i a, hm j b] at e; exact G.inj i j a b e
    · rw [hm i a, b, hn] at e; exact absurd e (ok.1 i a)
    · rw [hm j b, a, hn] at e; exact absurd e.symm (ok.1 j b)
    · rw [a, b]
  · by_cases q : i < θ.length
    · rw [List.getElem?_append_left q] at e
      rw [hm i (by rw [← G.len]; exact q)]
      exact (G.cel i c' e).ext E.toExtS fun u z => by rw [upd_ne (ne_of_none z h)]; exact z
    · have q' := Nat.not_lt.mp q
      rw [List.getElem?_append_right q'] at e
      have : i - θ.length = 0 := by
        cases z : i - θ.length with
        | zero => rfl
        | succ k => rw [z] at e; simp at e
      rw [this] at e
      simp at e
      subst e
      have : i = B.n := by rw [← G.len]; omega
      rw [this, hn]; exact k
  · rcases cs i hi with a | a
    · rw [hm i a]; exact G.cF i a
    · rw [a, hn]; exact ⟨ok.2.1, ok.2.2⟩
theorem ext_set (G : Good cl B θ H) {l : Nat} (hl : l < B.n) (o : HO) : ExtE B B H (upd H (B.m l) o) := by
  have ne : ∀ a u, (∀ i, i < B.n → B.m i ≠ a) → H a = some u → upd H (B.m l) o a = some u := fun a u k e => by rw [upd_ne (Ne.symm (k l hl))]; exact e
  exact ⟨⟨Nat.le_refl _, fun _ _ => rfl, fun i h h' => absurd h' (Nat.not_lt.mpr h), fun a u e k _ => ne a u k e, fun a e => by
    by_cases q : a = B.m l
    · rw [q, upd_same]; simp
    · rw [upd_ne q]; exact e, fun _ h => .inl h, rfl, rfl⟩, rfl, fun a u _ k e => ne a u k e⟩
theorem good_set (G : Good cl B θ H) {l : Nat} (hl : l < B.n) {o : HO} {c : Cell} (k : CellOk cl B (upd H (B.m l) o) (B.m l) c) : Good cl B (θ.set l c) (upd H (B.m l) o) := by
  have E := ext_set G hl o
  refine ⟨by rw [List.length_set]; exact G.len, G.inj, fun i c' e => ?_, G.cF, fun a z => E.sm a (G.Fs a z), fun a z => E.sm a (G.oS a z), G.oF, G.kc⟩
  by_cases q : i = l
  · subst q
    rw [List.getElem?_set_self (by rw [G.len]; exact hl)] at e
    cases e; exact k
  · rw [List.getElem?_set_ne (Ne.symm q)] at e
    have hi : i < B.n := by rw [← G.len]; exact (List.getElem?_eq_some_iff.mp e).1
    exact (G.cel i c' e).ext E.toExtS fun u z => by rw [upd_ne (fun z' => q (G.inj i l hi hl z'))]; exact z
end
inductive R (α : Type) where
  | ok (a : α) (θ : Sto) | ex (c : Str) (θ : Sto) | bad
def R.bind {α β : Type} (r : R α) (k : α → Sto → R β) : R β := match r with
  | .ok a θ => k a θ
  | .ex c θ => .ex c θ
  | .bad => .bad
@[simp] theorem R.bind_ok {α β : Type} (a : α) (θ : Sto) (k : α → Sto → R β) : (R.ok a θ).bind k = k a θ := nr rfl
@[simp] theorem R.bind_ex {α β : Type} (c : Str) (θ : Sto) (k : α → Sto → R β) : (R.ex c θ : R α).bind k = .ex c θ := nr rfl
@[simp] theorem R.bind_bad {α β : Type} (k : α → Sto → R β) : (R.bad : R α).bind k = .bad := nr rfl
inductive Sl where
  | no | val (d : D) | own (xs : List D)
structure Frm (cl : Mo) (B : Bx) (θ : Sto) (ρ : List Sl) (σ : St) (H : Hp) : Prop where
  good : Good cl B θ H
  len : ρ.length = σ.length
  val : ∀ (i : Nat) (d : D), ρ[i]? = some (Sl.val d) → ∃ v, σ[i]? = some (some v) ∧ RepV B H d v
  own : ∀ (i : Nat) (xs : List D), ρ[i]? = some (Sl.own xs) → ∃ a vs, σ[i]? = some (some (.ref a)) ∧ a ∈ B.os ∧ H a = some (.lst vs) ∧ RepL B H xs vs
  ne : ∀ (i j : Nat) (xs ys : List D) (a : Addr), i ≠ j → ρ[i]? = some (Sl.own xs) → ρ[j]? = some (Sl.own ys) → σ[i]? = some (some (.ref a)) → σ[j]? ≠ some (some (.ref a))
theorem Frm.ext {cl : Mo} {B B' : Bx} {θ θ' : Sto} {ρ : List Sl} {σ : St} {H H' : Hp} (F : Frm cl B θ ρ σ H) (E : ExtE B B' H H') (G : Good cl B' θ' H') : Frm cl B' θ' ρ σ H' where
  good := G
  len := F.len
  val := fun i d e => let ⟨v, h1, h2⟩ := F.val i d e; ⟨v, h1, h2.ext E.toExtS⟩
  own := fun i xs e => by
    obtain ⟨a, vs, h1, h2, h3, h4⟩ := F.own i xs e
    exact ⟨a, vs, h1, by rw [E.osE]; exact h2, E.ko a _ h2 (fun i hi z => (F.good.cF i hi).2 (by rw [z]; exact h2)) h3, h4.ext E.toExtS⟩
  ne := F.ne
def clOf (mg : Str → Option Value) (x : Str) : Addr := match mg x with
  | some (.ref a) => a
  | _ => 0
abbrev _root_.L2.Cx.cl (X : Cx) : Mo := ⟨clOf X.mg, X.K⟩
def XE (X : Cx) (σ : St) (B : Bx) (H : Hp) (c : Str) (θ' : Sto) : Prop := False
theorem XE.trans {X : Cx} {σ : St} {B B' : Bx} {H H' : Hp} {c : Str} {θ' : Sto} (h : XE X σ B H c θ') (E : ExtE B B' H H') : XE X σ B' H' c θ' := h
def wpR (X : Cx) (σ : St) {α β : Type} (Rel : Bx → Hp → α → β → Prop) (B : Bx) (H : Hp) (r : R α) (Q : β → Hp → Prop) : Prop := match r with
  | .ok a θ' => ∀ B' H' b, ExtE B B' H H' → Good X.cl B' θ' H' → Rel B' H' a b → Q b H'
  | .ex c θ' => XE X σ B H c θ'
  | .bad => False
section
variable {X : Cx} {σ : St} {α β γ δ : Type} {Rel : Bx → Hp → α → β → Prop} {Rel' : Bx → Hp → γ → δ → Prop} {B B' : Bx} {H H' : Hp}
theorem wpR.mono {r : R α} {Q Q' : β → Hp → Prop} (h : wpR X σ Rel B H r Q) (hQ : ∀ b H', Q b H' → Q' b H') : wpR X σ Rel B H r Q' := by
  cases r with
  | ok a θ' => exact fun B' H' b e g q => hQ _ _ (h B' H' b e g q)
  | ex c θ' => exact h
  | bad => exact h
theorem wpR.trans {r : R α} {Q : β → Hp → Prop} (h : wpR X σ Rel B H r Q) (E : ExtE B B' H H') : wpR X σ Rel B' H' r Q := by
  cases r with
  | ok a θ' => exact fun B2 H2 b e g q => h B2 H2 b (E.trans e) g q
  | ex c θ' => exact XE.trans (c := c) (θ' := θ') (σ := σ) (X := X) h E
  | bad => exact h
theorem wpR.bind {r : R α} {k : α → Sto → R γ} {Q : δ → Hp → Prop} (h : wpR X σ Rel' B H (r.bind k) Q) :
    wpR X σ Rel B H r (fun b H1 => ∃ B1 θ1 a, ExtE B B1 H H1 ∧ Good X.cl B1 θ1 H1 ∧ Rel B1 H1 a b ∧ wpR X σ Rel' B1 H1 (k a θ1) Q) := by
  cases r with
  | ok a θ' => exact fun B1 H1 b E g q => ⟨B1, θ', a, E, g, q, wpR.trans h E⟩
  | ex c θ' => exact h
  | bad => exact h
end
abbrev EM := List Sl → Sto → R D
abbrev TMr := List Sl → Sto → R Bool
abbrev AM := List Sl → Sto → R (List D)
def EqB (_ : Bx) (_ : Hp) (a b : Bool) : Prop := a = b
def tM (X : Cx) (f : EM) : TE := fun σ H Q => ∃ B θ ρ, Frm X.cl B θ ρ σ H ∧ wpR X σ RepV B H (f ρ θ) Q
def tMT (X : Cx) (f : TMr) : TT := fun σ H Q => ∃ B θ ρ, Frm X.cl B θ ρ σ H ∧ wpR X σ EqB B H (f ρ θ) Q
def tMA (X : Cx) (f : AM) : TA := fun σ H Q => ∃ B θ ρ, Frm X.cl B θ ρ σ H ∧ wpR X σ RepL B H (f ρ θ) Q
def ME (X : Cx) (e : Expr) (f : EM) : Prop := PE X e (tM X f)
def MT (X : Cx) (e : Expr) (f : TMr) : Prop := PT X e (tMT X f)
def MW (X : Cx) (e : Expr) (f : TMr) : Prop := PW X e (tMT X f)
def MA (X : Cx) (es : List Expr) (f : AM) : Prop := PA X es (tMA X f)
section
variable {X : Cx} {σ : St} {H : Hp} {γ δ : Type} {Rel' : Bx → Hp → γ → δ → Prop}
theorem tM_mono {f : EM} {Q Q' : VK} (h : tM X f σ H Q) (hQ : ∀ v H', Q v H' → Q' v H') : tM X f σ H Q' := let ⟨B, θ, ρ, F, w⟩ := h; ⟨B, θ, ρ, F, w.mono hQ⟩
theorem tMT_mono {f : TMr} {Q Q' : Bool → Hp → Prop} (h : tMT X f σ H Q) (hQ : ∀ v H', Q v H' → Q' v H') : tMT X f σ H Q' := let ⟨B, θ, ρ, F, w⟩ := h; ⟨B, θ, ρ, F, w.mono hQ⟩
theorem tMA_mono {f : AM} {Q Q' : List V → Hp → Prop} (h : tMA X f σ H Q) (hQ : ∀ v H', Q v H' → Q' v H') : tMA X f σ H Q' := let ⟨B, θ, ρ, F, w⟩ := h; ⟨B, θ, ρ, F, w.mono hQ⟩
variable {B : Bx} {θ : Sto} {ρ : List Sl}
theorem step {f : EM} {k : D → Sto → R γ} {Q : δ → Hp → Prop} (F : Frm X.cl B θ ρ σ H) (h : wpR X σ Rel' B H ((f ρ θ).bind k) Q) :
    tM X f σ H (fun v H1 => ∃ B1 θ1 d, ExtE B B1 H H1 ∧ Frm X.cl B1 θ1 ρ σ H1 ∧ RepV B1 H1 d v ∧ wpR X σ Rel' B1 H1 (k d θ1) Q) :=
  ⟨B, θ, ρ, F, (wpR.bind (Rel := RepV) h).mono fun v H1 ⟨B1, θ1, d, E, G, r, w⟩ => ⟨B1, θ1, d, E, F.ext E G, r, w⟩⟩
theorem stepT {f : TMr} {k : Bool → Sto → R γ} {Q : δ → Hp → Prop} (F : Frm X.cl B θ ρ σ H) (h : wpR X σ Rel' B H ((f ρ θ).bind k) Q) :
    tMT X f σ H (fun c H1 => ∃ B1 θ1, ExtE B B1 H H1 ∧ Frm X.cl B1 θ1 ρ σ H1 ∧ wpR X σ Rel' B1 H1 (k c θ1) Q) :=
  ⟨B, θ, ρ, F, (wpR.bind (Rel := EqB) h).mono fun v H1 ⟨B1, θ1, d, E, G, r, w⟩ => by cases (show d = v from r); exact ⟨B1, θ1, E, F.ext E G, w⟩⟩
theorem stepA {f : AM} {k : List D → Sto → R γ} {Q : δ → Hp → Prop} (F : Frm X.cl B θ ρ σ H) (h : wpR X σ Rel' B H ((f ρ θ).bind k) Q) :
    tMA X f σ H (fun v H1 => ∃ B1 θ1 d, ExtE B B1 H H1 ∧ Frm X.cl B1 θ1 ρ σ H1 ∧ RepL B1 H1 d v ∧ wpR X σ Rel' B1 H1 (k d θ1) Q) :=
  ⟨B, θ, ρ, F, (wpR.bind (Rel := RepL) h).mono fun v H1 ⟨B1, θ1, d, E, G, r, w⟩ => ⟨B1, θ1, d, E, F.ext E G, r, w⟩⟩
theorem wp_now {α β : Type} {Rel : Bx → Hp → α → β → Prop} {a : α} {b : β} {Q : β → Hp → Prop} (G : Good X.cl B θ H) (r : Rel B H a b) (h : wpR X σ Rel B H (.ok a θ) Q) : Q b H := h B H b (ExtE.refl B H) G r
end
theorem PE.imp {X : Cx} {e : Expr} {t t' : TE} (h : PE X e t) (hi : ∀ σ H Q, t' σ H Q → t σ H Q) : PE X e t' := fun pins s σ H Q I q => h pins s σ H Q I (hi σ H Q q)
theorem PT.imp {X : Cx} {e : Expr} {t t' : TT} (h : PT X e t) (hi : ∀ σ H Q, t' σ H Q → t σ H Q) : PT X e t' := fun pins s σ H Q I q => h pins s σ H Q I (hi σ H Q q)
theorem PW.imp {X : Cx} {e : Expr} {t t' : TT} (h : PW X e t) (hi : ∀ σ H Q, t' σ H Q → t σ H Q) : PW X e t' := fun wh pins s σ H Q I q => h wh pins s σ H Q I (hi σ H Q q)
theorem PA.imp {X : Cx} {es : List Expr} {t t' : TA} (h : PA X es t) (hi : ∀ σ H Q, t' σ H Q → t σ H Q) : PA X es t' := fun pos pins s σ H Q I q => h pos pins s σ H Q I (hi σ H Q q)
theorem OpR.imp {X : Cx} {f : Value → Value → Sem Value} {r r' : R2} (h : OpR X f r) (hi : ∀ x y H Q, r' x y H Q → r x y H Q) : OpR X f r' := fun pins s σ H x y v u Q I rx ry q => h pins s σ H x y v u Q I rx ry (hi x y H Q q)
theorem IxR.imp {X : Cx} {r r' : R2} (h : IxR X r) (hi : ∀ x y H Q, r' x y H Q → r x y H Q) : IxR X r' := fun pins s σ H x y v u Q v1 s1 I rx ry q => h pins s σ H x y v u Q v1 s1 I rx ry (hi _ _ _ _ q)
theorem CallR.imp {X : Cx} {f : Value} {r r' : List V → Hp → VK → Prop} (h : CallR X f r) (hi : ∀ xs H Q, r' xs H Q → r xs H Q) : CallR X f r' := fun pins s σ H xs us Q I r q => h pins s σ H xs us Q I r (hi _ _ _ q)
end L2.MM
set_option Elab.async false
set_option linter.all false
set_option maxRecDepth 100000
set_option maxHeartbeats 4000000
namespace L2.MM
open PySem PySem.Spec PyProof.Rows
noncomputable section
variable {X : Cx}
def lstOf (θ : Sto) : D → Option (List D)
  | .lst xs => some xs
  | .ref l => match θ[l]? with
    | some (.lst xs) => some xs
    | _ => none
  | _ => none
def seqOf (θ : Sto) : D → Option (List D)
  | .tup xs => some xs
  | .scr ns => some (ns.map D.int)
  | d => lstOf θ d
theorem lstOf_at {cl : Mo} {B : Bx} {θ : Sto} {H : Hp} (G : Good cl B θ H) {d : D} {v : V} {xs : List D} (r : RepV B H d v) (h : lstOf θ d = some xs) : ∃ a vs, v = .ref a ∧ H a = some (.lst vs) ∧ RepL B H xs vs := by
  cases d with
  | lst ys =>
    obtain ⟨a, vs, e, h1, _, h2⟩ := r
    cases h
    exact ⟨a, vs, e, h1, h2⟩
  | ref l =>
    obtain ⟨hl, rfl⟩ := r
    simp only [lstOf] at h
    split at h
    · rename_i ys e
      cases h
      obtain ⟨vs, q1, q2⟩ := G.cel l _ e
      exact ⟨_, vs, rfl, q1, q2⟩
    · cases h
  | _ => cases h
theorem seqOf_at {cl : Mo} {B : Bx} {θ : Sto} {H : Hp} (G : Good cl B θ H) {d : D} {v : V} {xs : List D} (r : RepV B H d v) (h : seqOf θ d = some xs) :
    ∃ a vs, v = .ref a ∧ (SqL cl.K H a vs ∨ SqT cl.K H a vs) ∧ RepL B H xs vs := by
  cases d with
  | tup ys =>
    obtain ⟨a, vs, e, h1, _, h2⟩ := r
    cases h
    exact ⟨a, vs, e, .inr (SqT.of h1), h2⟩
  | scr ns =>
    obtain ⟨a, e, h1⟩ := r
    cases h
    refine ⟨a, ns.map V.int, e, .inl ?_, RepL.map (f := D.int) (g := V.int) (fun _ => rfl) ns⟩
    rcases h1 with ⟨o, h1, _⟩ | h1
    · exact .inl (.inr ⟨o, h1⟩)
    · exact .inr (G.kc a ns h1)
  | lst ys =>
    obtain ⟨a, vs, e, h1, h2⟩ := lstOf_at G r (show lstOf θ (.lst ys) = some xs from h)
    exact ⟨a, vs, e, .inl (SqL.of h1), h2⟩
  | ref l =>
    obtain ⟨a, vs, e, h1, h2⟩ := lstOf_at G r (show lstOf θ (.ref l) = some xs from h)
    exact ⟨a, vs, e, .inl (SqL.of h1), h2⟩
  | _ => cases h
abbrev BIG : Nat := 100000
theorem big_size {n : Nat} (h : n ≤ BIG) : n ≤ sizeLine := Nat.le_trans h (by rw [sizeLine_eq]; decide)
def mVar (i : Nat) : EM := fun ρ θ => match ρ[i]? with
  | some (Sl.val d) => .ok d θ
  | _ => .bad
def mC (d : D) : EM := fun _ θ => .ok d θ
section
variable {a b c e : Expr} {pos : Pos} {fa fb fc : EM} {ft fu : TMr}
theorem me_var (i : Nat) {x : Str} {pos : Pos} (hN : X.N[i]? = some x := by rfl) (hv : Vis X.env.scope x := by first | exact Or.inl rfl | exact Or.inr (Or.inl rfl) | exact Or.inr (Or.inr rfl))
    (hd : (x == ("__debug__" : Str)) = false := by decide) (hcd : (x == ("__classdict__" : Str)) = false := by decide) : ME X (.Name x pos) (mVar i) := by
  refine PE.imp (pe_var hN hv hd hcd) fun σ H Q h => ?_
  obtain ⟨B, θ, ρ, F, w⟩ := h
  unfold mVar at w
  split at w
  · rename_i d e
    obtain ⟨v, h1, h2⟩ := F.val i d e
    exact ⟨v, h1, wp_now F.good h2 w⟩
  · exact w.elim
theorem me_c {d : D} {v : V} (h : PE X e (tC v)) (r : ∀ B H, RepV B H d v) : ME X e (mC d) := by
  refine PE.imp h fun σ H Q h => ?_
  obtain ⟨B, θ, ρ, F, w⟩ := h
  exact wp_now F.good (r B H) w
theorem me_int {i j pos} : ME X (.Constant (.int i) j pos) (mC (.int i)) := me_c pe_int fun _ _ => rfl
theorem me_bl {i j pos} : ME X (.Constant (.bool i) j pos) (mC (.bl i)) := me_c pe_bl fun _ _ => rfl
theorem me_non {j pos} : ME X (.Constant .none j pos) (mC .non) := me_c pe_non fun _ _ => rfl
theorem me_str {i j pos} : ME X (.Constant (.str i) j pos) (mC (.str i)) := me_c pe_str fun _ _ => rfl
theorem me_gint {x : Str} {i : Int} (h : ∃ t, X.mg x = some (.int i t)) (hg : Gl X x := by rfl) (hd : (x == ("__debug__" : Str)) = false := by decide) : ME X (.Name x pos) (mC (.int i)) := me_c (pe_gint h hg hd) fun _ _ => rfl
theorem me_gstr {x : Str} {y : Str} (h : ∃ t, X.mg x = some (.str y t)) (hg : Gl X x := by rfl) (hd : (x == ("__debug__" : Str)) = false := by decide) : ME X (.Name x pos) (mC (.str y)) := by
  obtain ⟨t, h⟩ := h
  exact me_c (pe_glob hg h (v := .str y) ⟨t, rfl⟩ hd) fun _ _ => rfl
theorem me_ty {x : Str} {n : String} {pos : Pos} (hm : X.mg x = none) (hv : bootBuiltins x = some (.type n)) (hg : Gl X x := by rfl) (hn : x ≠ "__name__" := by decide) (hd : (x == ("__debug__" : Str)) = false := by decide) : ME X (.Name x pos) (mC (.ty n)) :=
  me_c (pe_ty hm hv hg hn hd) fun _ _ => rfl
abbrev OM := D → D → Sto → R D
def mOp (g : OM) (fa fb : EM) : EM := fun ρ θ => (fa ρ θ).bind fun x θ => (fb ρ θ).bind fun y θ => g x y θ
def rM (X : Cx) (g : OM) : R2 := fun x y H Q => ∃ σ B θ d e, Good X.cl B θ H ∧ RepV B H d x ∧ RepV B H e y ∧ wpR X σ RepV B H (g d e θ) Q
theorem tM_op {g : OM} (σ : St) (H : Hp) (Q : VK) (h : tM X (mOp g fa fb) σ H Q) : tOp (rM X g) (tM X fa) (tM X fb) σ H Q := by
  obtain ⟨B, θ, ρ, F, w⟩ := h
  refine tM_mono (step F w) ?_
  rintro x' H1 ⟨B1, θ1, x, E1, F1, rx, w1⟩
  refine tM_mono (step F1 w1) ?_
  rintro y' H2 ⟨B2, θ2, y, E2, F2, ry, w2⟩
  exact ⟨σ, B2, θ2, x, y, F2.good, rx.ext E2.toExtS, ry, w2⟩
theorem me_op {op : Operator} {g : OM} (ho : OpR X (binaryOp op) (rM X g)) (ha : ME X a fa) (hb : ME X b fb) : ME X (.BinOp a op b pos) (mOp g fa fb) := PE.imp (pe_op ho ha hb) tM_op
theorem me_cmp {op : CmpOp} {g : OM} (ho : OpR X (compareOp op) (rM X g)) (ha : ME X a fa) (hb : ME X b fb) (hm : behindInMarks op b = false := by first | exact nomark _ | rfl) : ME X (.Compare a [op] [b] pos) (mOp g fa fb) := PE.imp (pe_cmpR ho ha hb hm) tM_op
theorem me_ix {g : OM} (hr : IxR X (rM X g)) (ha : ME X a fa) (hb : ME X b fb) (hs : PlainIx b := by intro _ _; rfl) : ME X (.Subscript a b pos) (mOp g fa fb) := PE.imp (pe_ix hr ha hb hs) tM_op
def mTest (f : EM) : TMr := fun ρ θ => (f ρ θ).bind fun x θ => match x with
  | .bl k => .ok k θ
  | _ => .bad
theorem tMT_test {f : EM} (σ : St) (H : Hp) (Q : Bool → Hp → Prop) (h : tMT X (mTest f) σ H Q) : tM X f σ H (fun v H1 => ∃ k, v = .bl k ∧ Q k H1) := by
  obtain ⟨B, θ, ρ, F, w⟩ := h
  refine tM_mono (step F w) ?_
  rintro v H1 ⟨B1, θ1, x, E1, F1, rx, w1⟩
  cases x with
  | bl k => exact ⟨k, rx, wp_now (Rel := EqB) F1.good rfl w1⟩
  | _ => exact w1.elim
theorem mt_cmp {op : CmpOp} {g : OM} (ho : OpR X (compareOp op) (rM X g)) (ha : ME X a fa) (hb : ME X b fb) (hm : behindInMarks op b = false := by first | exact nomark _ | rfl) : MT X (.Compare a [op] [b] pos) (mTest (mOp g fa fb)) := by
  refine PT.imp (pt_cmpR ho ha hb hm) fun σ H Q h => ?_
  have q := tMT_test σ H Q h
  exact tM_op σ H _ q
def mChain (g g' : OM) (fa fb fc : EM) : EM := fun ρ θ => (fa ρ θ).bind fun x θ => (fb ρ θ).bind fun y θ => (g x y θ).bind fun z θ => match z with
  | .bl true => (fc ρ θ).bind fun w θ => g' y w θ
  | .bl false => .ok (.bl false) θ
  | _ => .bad
theorem tM_chain {g g' : OM} (σ : St) (H : Hp) (Q : VK) (h : tM X (mChain g g' fa fb fc) σ H Q) : tChain (rM X g) (rM X g') (tM X fa) (tM X fb) (tM X fc) σ H Q := by
  obtain ⟨B, θ, ρ, F, w⟩ := h
  refine tM_mono (step F w) ?_
  rintro x' H1 ⟨B1, θ1, x, E1, F1, rx, w1⟩
  refine tM_mono (step F1 w1) ?_
  rintro y' H2 ⟨B2, θ2, y, E2, F2, ry, w2⟩
  refine ⟨σ, B2, θ2, x, y, F2.good, rx.ext E2.toExtS, ry, (wpR.bind (Rel := RepV) w2).mono ?_⟩
  rintro z' H3 ⟨B3, θ3, z, E3, G3, rz, w3⟩
  have F3 := F2.ext E3 G3
  cases z with
  | bl k =>
    refine ⟨k, rz, ?_⟩
    cases k with
    | true =>
      rw [if_pos rfl]
      refine tM_mono (step F3 w3) ?_
      rintro w' H4 ⟨B4, θ4, u, E4, F4, ru, w4⟩
      exact ⟨σ, B4, θ4, y, u, F4.good, ry.ext (E3.trans E4).toExtS, ru, w4⟩
    | false =>
      rw [if_neg Bool.false_ne_true]
      exact wp_now G3 (show RepV B3 H3 (.bl false) (.bl false) from rfl) w3
  | _ => exact w3.elim
theorem me_chain {op op' : CmpOp} {g g' : OM} (ho : OpR X (compareOp op) (rM X g)) (ho' : OpR X (compareOp op') (rM X g')) (ha : ME X a fa) (hb : ME X b fb) (hc : ME X c fc)
    (hm : lastMarks [op, op'] [b, c] = false := by with_unfolding_all rfl) : ME X (.Compare a [op, op'] [b, c] pos) (mChain g g' fa fb fc) := PE.imp (pe_chain ho ho' ha hb hc hm) tM_chain
def truD (θ : Sto) : D → Option Bool
  | .non => some false
  | .bl b => some b
  | .int i => some (i != 0)
  | .str x => if x.length ≤ BIG then some ((x.length : Int) != 0) else none
  | d => (seqOf θ d).map fun xs => !xs.isEmpty
def mTru (f : EM) : TMr := fun ρ θ => (f ρ θ).bind fun x θ => match truD θ x with
  | some k => .ok k θ
  | none => .bad
theorem RepL.emp {B : Bx} {H : Hp} {xs : List D} {vs : List V} (r : RepL B H xs vs) : vs.isEmpty = xs.isEmpty := by
  cases xs with
  | nil => cases (show vs = [] from r); rfl
  | cons _ _ => obtain ⟨v, q, rfl, _, _⟩ := r; rfl
theorem truD_ok {cl : Mo} {B : Bx} {θ : Sto} {H : Hp} (G : Good cl B θ H) {d : D} {v : V} {k : Bool} (r : RepV B H d v) (h : truD θ d = some k) : TruV cl.K v H k := by
  have sq : ∀ xs, seqOf θ d = some xs → ((seqOf θ d).map fun xs => !xs.isEmpty) = some k → TruV cl.K v H k := fun xs e q => by
    rw [e] at q
    cases q
    obtain ⟨a, vs, rfl, h1, h2⟩ := seqOf_at G r e
    show TruV cl.K (V.ref a) H (!xs.isEmpty)
    rw [← h2.emp]
    rcases h1 with h1 | h1
    · exact .inl ⟨vs, h1, rfl⟩
    · exact .inr (.inl ⟨vs, h1, rfl⟩)
  cases d with
  | non => cases (show v = .non from r); cases h; rfl
  | bl b => cases (show v = .bl b from r); cases h; rfl
  | int i => cases (show v = .int i from r); cases h; rfl
  | str x =>
    cases (show v = .str x from r)
    simp only [truD] at h
    split at h
    · rename_i hz; cases h; exact ⟨big_size hz, rfl⟩
    · cases h
  | ty n => simp [truD, seqOf, lstOf] at h
  | scr ns => exact sq _ rfl h
  | tup xs => exact sq _ rfl h
  | lst xs => exact sq _ rfl h
  | ref l =>
    cases e : seqOf θ (.ref l) with
    | none => simp only [truD, e] at h; cases h
    | some xs => exact sq xs e h
theorem mt_truth (ha : ME X a fa) (he : ∀ whole, isTrue a X.env whole = (do let v ← whole; standAt a.pos; holding [v] (truthy v)) := by intro _; rfl) : MT X a (mTru fa) := by
  refine PT.imp (pt_truth ha he) fun σ H Q h => ?_
  obtain ⟨B, θ, ρ, F, w⟩ := h
  refine tM_mono (step F w) ?_
  rintro v H1 ⟨B1, θ1, x, E1, F1, rx, w1⟩
  cases e : truD θ1 x with
  | none => rw [e] at w1; exact w1.elim
  | some k => rw [e] at w1; exact ⟨k, truD_ok F1.good rx e, wp_now (Rel := EqB) F1.good rfl w1⟩
def mAnd (f g : TMr) : TMr := fun ρ θ => (f ρ θ).bind fun k θ => if k = true then g ρ θ else .ok false θ
def mOr (f g : TMr) : TMr := fun ρ θ => (f ρ θ).bind fun k θ => if k = true then .ok true θ else g ρ θ
def mNot (f : TMr) : TMr := fun ρ θ => (f ρ θ).bind fun k θ => .ok (!k) θ
theorem mw_one_and (ha : MT X a ft) : MW X (.BoolOp .And [a] pos) ft := pw_and1 ha
theorem mw_one_or (ha : MT X a ft) : MW X (.BoolOp .Or [a] pos) ft := pw_or1 ha
theorem mw_and {rest : List Expr} (ha : MT X a ft) (hb : MW X (.BoolOp .And (b :: rest) pos) fu) : MW X (.BoolOp .And (a :: b :: rest) pos) (mAnd ft fu) := by
  refine PW.imp (pw_and ha hb) fun σ H Q h => ?_
  obtain ⟨B, θ, ρ, F, w⟩ := h
  refine tMT_mono (stepT F w) ?_
  rintro k H1 ⟨B1, θ1, E1, F1, w1⟩
  cases k with
  | true => rw [if_pos rfl] at w1 ⊢; exact ⟨B1, θ1, ρ, F1, w1⟩
  | false => rw [if_neg Bool.false_ne_true] at w1 ⊢; exact wp_now (Rel := EqB) F1.good rfl w1
theorem mw_or {rest : List Expr} (ha : MT X a ft) (hb : MW X (.BoolOp .Or (b :: rest) pos) fu) : MW X (.BoolOp .Or (a :: b :: rest) pos) (mOr ft fu) := by
  refine PW.imp (pw_or ha hb) fun σ H Q h => ?_
  obtain ⟨B, θ, ρ, F, w⟩ := h
  refine tMT_mono (stepT F w) ?_
  rintro k H1 ⟨B1, θ1, E1, F1, w1⟩
  cases k with
  | true => rw [if_pos rfl] at w1 ⊢; exact wp_now (Rel := EqB) F1.good rfl w1
  | false => rw [if_neg Bool.false_ne_true] at w1 ⊢; exact ⟨B1, θ1, ρ, F1, w1⟩
theorem MW.mt {e : Expr} {f : TMr} (h : MW X e f) : MT X e f := PW.pt h
theorem mt_not (ha : MT X a ft) : MT X (.UnaryOp .Not a pos) (mNot ft) := by
  refine PT.imp (pt_not ha) fun σ H Q h => ?_
  obtain ⟨B, θ, ρ, F, w⟩ := h
  refine tMT_mono (stepT F w) ?_
  rintro k H1 ⟨B1, θ1, E1, F1, w1⟩
  exact wp_now (Rel := EqB) F1.good rfl w1
def mAndV (f g : EM) : EM := fun ρ θ => (f ρ θ).bind fun x θ => match x with
  | .bl true => g ρ θ
  | .bl false => .ok (.bl false) θ
  | _ => .bad
def mOrV (f g : EM) : EM := fun ρ θ => (f ρ θ).bind fun x θ => match x with
  | .bl true => .ok (.bl true) θ
  | .bl false => g ρ θ
  | _ => .bad
def mNotV (f : EM) : EM := fun ρ θ => (f ρ θ).bind fun x θ => match truD θ x with
  | some k => .ok (.bl (!k)) θ
  | none => .bad
theorem me_one {op} (h : ME X a fa) : ME X (.BoolOp op [a] pos) fa := pe_one h
theorem me_and {rest : List Expr} (ha : ME X a fa) (hb : ME X (.BoolOp .And (b :: rest) pos) fb) : ME X (.BoolOp .And (a :: b :: rest) pos) (mAndV fa fb) := by
  refine PE.imp (pe_and ha hb) fun σ H Q h => ?_
  obtain ⟨B, θ, ρ, F, w⟩ := h
  refine tM_mono (step F w) ?_
  rintro v H1 ⟨B1, θ1, x, E1, F1, rx, w1⟩
  cases x with
  | bl k =>
    refine ⟨k, rx, ?_⟩
    cases k with
    | true => rw [if_pos rfl]; exact ⟨B1, θ1, ρ, F1, w1⟩
    | false => rw [if_neg Bool.false_ne_true]; exact wp_now F1.good (show RepV B1 H1 (.bl false) (.bl false) from rfl) w1
  | _ => exact w1.elim
theorem me_or {rest : List Expr} (ha : ME X a fa) (hb : ME X (.BoolOp .Or (b :: rest) pos) fb) : ME X (.BoolOp .Or (a :: b :: rest) pos) (mOrV fa fb) := by
  refine PE.imp (pe_or ha hb) fun σ H Q h => ?_
  obtain ⟨B, θ, ρ, F, w⟩ := h
  refine tM_mono (step F w) ?_
  rintro v H1 ⟨B1, θ1, x, E1, F1, rx, w1⟩
  cases x with
  | bl k =>
    refine ⟨k, rx, ?_⟩
    cases k with
    | true => rw [if_pos rfl]; exact wp_now F1.good (show RepV B1 H1 (.bl true) (.bl true) from rfl) w1
    | false => rw [if_neg Bool.false_ne_true]; exact ⟨B1, θ1, ρ, F1, w1⟩
  | _ => exact w1.elim
def mIte (t : TMr) (f g : EM) : EM := fun ρ θ => (t ρ θ).bind fun k θ => if k = true then f ρ θ else g ρ θ
theorem me_ite {c : Expr} (hc : MT X c ft) (ha : ME X a fa) (hb : ME X b fb) : ME X (.IfExp c a b pos) (mIte ft fa fb) := by
  refine PE.imp (pe_ifExp hc ha hb) fun σ H Q h => ?_
  obtain ⟨B, θ, ρ, F, w⟩ := h
  refine tMT_mono (stepT F w) ?_
  rintro k H1 ⟨B1, θ1, E1, F1, w1⟩
  cases k with
  | true => rw [if_pos rfl] at w1 ⊢; exact ⟨B1, θ1, ρ, F1, w1⟩
  | false => rw [if_neg Bool.false_ne_true] at w1 ⊢; exact ⟨B1, θ1, ρ, F1, w1⟩
def mNil : AM := fun _ θ => .ok [] θ
def mCons (f : EM) (g : AM) : AM := fun ρ θ => (f ρ θ).bind fun x θ => (g ρ θ).bind fun xs θ => .ok (x :: xs) θ
theorem ma_nil : MA X [] mNil := PA.imp pa_nil fun σ H Q h => by
  obtain ⟨B, θ, ρ, F, w⟩ := h
  exact wp_now (Rel := RepL) F.good (show RepL B H [] [] from rfl) w
theorem ma_cons {es : List Expr} {fs : AM} (ha : ME X e fa) (hr : MA X es fs) (hs : starEach (e :: es) X.env = (false, eval e X.env) :: starEach es X.env := by rfl) : MA X (e :: es) (mCons fa fs) := by
  refine PA.imp (pa_cons ha hr hs) fun σ H Q h => ?_
  obtain ⟨B, θ, ρ, F, w⟩ := h
  refine tM_mono (step F w) ?_
  rintro x' H1 ⟨B1, θ1, x, E1, F1, rx, w1⟩
  refine tMA_mono (stepA F1 w1) ?_
  rintro xs' H2 ⟨B2, θ2, xs, E2, F2, rxs, w2⟩
  exact wp_now (Rel := RepL) F2.good (show RepL B2 H2 (x :: xs) (x' :: xs') from ⟨x', xs', rfl, rx.ext E2.toExtS, rxs⟩) w2
def mTup (f : AM) : EM := fun ρ θ => (f ρ θ).bind fun xs θ => if xs.length ≤ BIG then .ok (.tup xs) θ else .bad
def mLst (f : AM) : EM := fun ρ θ => (f ρ θ).bind fun xs θ => if xs.length ≤ BIG then .ok (.lst xs) θ else .bad
def mLstC (f : AM) : EM := fun ρ θ => (f ρ θ).bind fun xs θ => if xs.length ≤ BIG then .ok (.ref θ.length) (θ ++ [.lst xs]) else .bad
theorem wp_tup {σ : St} {B : Bx} {θ : Sto} {H : Hp} {xs : List D} {vs : List V} {Q : VK} (G : Good X.cl B θ H) (r : RepL B H xs vs) (w : wpR X σ RepV B H (.ok (.tup xs) θ) Q) : ∀ p, H p = none → Q (.ref p) (upd H p (.tup vs)) :=
  fun p hp => w B _ _ (ext_new G hp _) (good_new G hp _) (rep_tup G hp r)
theorem wp_lst {σ : St} {B : Bx} {θ : Sto} {H : Hp} {xs : List D} {vs : List V} {Q : VK} (G : Good X.cl B θ H) (r : RepL B H xs vs) (w : wpR X σ RepV B H (.ok (.lst xs) θ) Q) : ∀ p, H p = none → Q (.ref p) (upd H p (.lst vs)) :=
  fun p hp => w B _ _ (ext_new G hp _) (good_new G hp _) (rep_lst G hp r)
theorem me_tup {es : List Expr} {fs : AM} {x1} (h : MA X es fs) : ME X (.Tuple es x1 pos) (mTup fs) := by
  refine PE.imp (pe_tup h) fun σ H Q h => ?_
  obtain ⟨B, θ, ρ, F, w⟩ := h
  refine tMA_mono (stepA F w) ?_
  rintro xs' H2 ⟨B2, θ2, xs, E2, F2, rxs, w2⟩
  split at w2
  · rename_i hz
    exact ⟨by rw [rxs.len]; exact big_size hz, wp_tup F2.good rxs w2⟩
  · exact w2.elim
theorem me_lst {es : List Expr} {fs : AM} (h : MA X es fs) : ME X (.List es pos) (mLst fs) := by
  refine PE.imp (pe_lst h) fun σ H Q h => ?_
  obtain ⟨B, θ, ρ, F, w⟩ := h
  refine tMA_mono (stepA F w) ?_
  rintro xs' H2 ⟨B2, θ2, xs, E2, F2, rxs, w2⟩
  split at w2
  · rename_i hz
    exact ⟨by rw [rxs.len]; exact big_size hz, wp_lst F2.good rxs w2⟩
  · exact w2.elim
abbrev GM := List D → Sto → R D
def mCB (g : GM) (f : AM) : EM := fun ρ θ => (f ρ θ).bind fun xs θ => g xs θ
def rC (X : Cx) (g : GM) : List V → Hp → VK → Prop := fun xs H Q => ∃ σ B θ ds, Good X.cl B θ H ∧ RepL B H ds xs ∧ wpR X σ RepV B H (g ds θ) Q
theorem tM_CB {g : GM} {fs : AM} (σ : St) (H : Hp) (Q : VK) (h : tM X (mCB g fs) σ H Q) : tCB (rC X g) (tMA X fs) σ H Q := by
  obtain ⟨B, θ, ρ, F, w⟩ := h
  refine tMA_mono (stepA F w) ?_
  rintro xs' H2 ⟨B2, θ2, xs, E2, F2, rxs, w2⟩
  exact ⟨σ, B2, θ2, xs, F2.good, rxs, w2⟩
theorem me_callB {x : Str} {id : String} {p : Pos} {es : List Expr} {fs : AM} {g : GM} (hc : CallR X (.builtin id) (rC X g)) (hm : X.mg x = none) (hv : bootBuiltins x = some (.builtin id)) (ha : MA X (e :: es) fs) (hg : Gl X x := by rfl) (hn : x ≠ "__name__" := by decide) (hdb : (x == ("__debug__" : Str)) = false := by decide)
    (he : starEach (e :: es) X.env = (false, eval e X.env) :: starEach es X.env := by rfl) (hpl : (backTo pos (starEach es X.env)).any (·.1) = false := by rfl) : ME X (.Call (.Name x p) (e :: es) [] pos) (mCB g fs) :=
  PE.imp (pe_callB hc hg hm hv ha hn hdb he hpl) tM_CB
theorem me_callTy {x : Str} {T : String} {p : Pos} {es : List Expr} {fs : AM} {g : GM} (hc : CallR X (.type T) (rC X g)) (hm : X.mg x = none) (hv : bootBuiltins x = some (.type T)) (ha : MA X (e :: es) fs) (hg : Gl X x := by rfl) (hn : x ≠ "__name__" := by decide) (hdb : (x == ("__debug__" : Str)) = false := by decide)
    (he : starEach (e :: es) X.env = (false, eval e X.env) :: starEach es X.env := by rfl) (hpl : (backTo pos (starEach es X.env)).any (·.1) = false := by rfl) : ME X (.Call (.Name x p) (e :: es) [] pos) (mCB g fs) :=
  PE.imp (pe_callTy hc hg hm hv ha hn hdb he hpl) tM_CB
end
end
end L2.MM
set_option Elab.async false
set_option linter.all false
set_option maxRecDepth 100000
set_option maxHeartbeats 4000000
namespace L2.MM
open PySem PySem.Spec PyProof.Rows PySem.SeqAt
noncomputable section
variable {X : Cx}
section
open Classical in
def opI (C : Int → Int → Prop) (g : Int → Int → D) : OM := fun x y θ => match x, y with
  | .int i, .int j => if C i j then .ok (g i j) θ else .bad
  | _, _ => .bad
open Classical in
@[simp] theorem opI_int (C : Int → Int → Prop) (g : Int → Int → D) (i j : Int) (θ : Sto) : opI C g (.int i) (.int j) θ = if C i j then .ok (g i j) θ else .bad := nr rfl
open Classical in
theorem op_int {f : Value → Value → Sem Value} {C : Int → Int → Prop} {g : Int → Int → D} {gV : Int → Int → V} (h : OpR X f (rI C gV)) (r : ∀ B H i j, RepV B H (g i j) (gV i j)) : OpR X f (rM X (opI C g)) := by
  refine OpR.imp h fun x y H Q q => ?_
  obtain ⟨σ, B, θ, d, e, G, rd, re, w⟩ := q
  unfold opI at w
  split at w
  · rename_i i j
    split at w
    · rename_i hc
      exact ⟨i, j, rd, re, hc, wp_now G (r B H i j) w⟩
    · exact w.elim
  · exact w.elim
theorem rI_of {f : Value → Value → Sem Value} {g : Int → Int → V} (h : OpR X f (rI0 g)) : OpR X f (rI (fun _ _ => True) g) := OpR.imp h fun x y H Q ⟨i, j, a, b, _, q⟩ => ⟨i, j, a, b, q⟩
abbrev subM : OM := opI (fun _ _ => True) fun i j => .int (i - j)
abbrev divM : OM := opI (fun _ j => 0 < j ∧ j < 18446744073709551616) fun i j => .int (i / j)
abbrev modM : OM := opI (fun _ j => 0 < j) fun i j => .int (i % j)
abbrev andM : OM := opI (fun _ _ => True) fun i j => .int (Builtin.bitAnd i j)
abbrev leM : OM := opI (fun _ _ => True) fun i j => .bl (decide (i ≤ j))
abbrev gtM : OM := opI (fun _ _ => True) fun i j => .bl (decide (j < i))
abbrev geM : OM := opI (fun _ _ => True) fun i j => .bl (decide (j ≤ i))
theorem o_sub : OpR X (binaryOp .Sub) (rM X subM) := op_int (rI_of op_sub) fun _ _ _ _ => rfl
theorem o_div : OpR X (binaryOp .FloorDiv) (rM X divM) := op_int (OpR.imp op_fdivC fun x y H Q ⟨i, j, a, b, c, q⟩ => ⟨i, j, a, b, ⟨c.1, by
  have h : j.natAbs < 2 ^ 64 := by have := c.1; have := c.2; omega
  have h0 : j.natAbs ≠ 0 := by have := c.1; omega
  have := (Nat.log2_lt h0).mpr h
  omega⟩, q⟩) fun _ _ _ _ => rfl
theorem o_mod : OpR X (binaryOp .Mod) (rM X modM) := op_int op_mod fun _ _ _ _ => rfl
theorem o_and : OpR X (binaryOp .BitAnd) (rM X andM) := op_int (rI_of op_and) fun _ _ _ _ => rfl
theorem o_le : OpR X (compareOp .LtE) (rM X leM) := op_int (rI_of op_le) fun _ _ i j => by show _ = V.bl _; congr
theorem o_gt : OpR X (compareOp .Gt) (rM X gtM) := op_int (rI_of op_gt) fun _ _ i j => by show _ = V.bl _; congr
theorem o_ge : OpR X (compareOp .GtE) (rM X geM) := op_int (rI_of op_ge) fun _ _ i j => by show _ = V.bl _; congr
def addM : OM := fun x y θ => match x, y with
  | .int i, .int j => .ok (.int (i + j)) θ
  | .str i, .str j => if i.length + j.length ≤ BIG then .ok (.str (i ++ j)) θ else .bad
  | .tup xs, .tup ys => if xs.isEmpty = false ∧ xs.length + ys.length ≤ BIG then .ok (.tup (xs ++ ys)) θ else .bad
  | x, y => match lstOf θ x, lstOf θ y with
    | some xs, some ys => if xs.length + ys.length ≤ BIG then .ok (.lst (xs ++ ys)) θ else .bad
    | _, _ => .bad
@[simp] theorem addM_int (i j : Int) (θ : Sto) : addM (.int i) (.int j) θ = .ok (.int (i + j)) θ := nr rfl
@[simp] theorem addM_lst (xs ys : List D) (θ : Sto) : addM (.lst xs) (.lst ys) θ = if xs.length + ys.length ≤ BIG then .ok (.lst (xs ++ ys)) θ else .bad := nr rfl
@[simp] theorem addM_tup (xs ys : List D) (θ : Sto) : addM (.tup xs) (.tup ys) θ = if xs.isEmpty = false ∧ xs.length + ys.length ≤ BIG then .ok (.tup (xs ++ ys)) θ else .bad := nr rfl
@[simp] theorem addM_str (i j : Str) (θ : Sto) : addM (.str i) (.str j) θ = if i.length + j.length ≤ BIG then .ok (.str (i ++ j)) θ else .bad := nr rfl
theorem o_add : OpR X (binaryOp .Add) (rM X addM) := by
  refine OpR.imp (op_add.or (op_add_str.or (op_catT.or op_cat))) fun x y H Q q => ?_
  obtain ⟨σ, B, θ, d, e, G, rd, re, w⟩ := q
  unfold addM at w
  split at w
  · exact .inl ⟨_, _, rd, re, wp_now G (show RepV B H (.int _) (.int _) from rfl) w⟩
  · split at w
    · rename_i hz
      exact .inr (.inl ⟨_, _, rd, re, big_size hz, wp_now G (show RepV B H (.str _) (.str _) from rfl) w⟩)
    · exact w.elim
  · split at w
    · rename_i xs ys hz
      obtain ⟨a, vs, rfl, h1, k1, l1⟩ := rd
      obtain ⟨b, us, rfl, h2, k2, l2⟩ := re
      refine .inr (.inr (.inl ⟨a, b, vs, us, rfl, rfl, SqT.of h1, SqT.of h2, ?_, ?_, fun z => ?_, fun _ => wp_tup G (l1.app l2) w⟩))
      · intro z
        have := l1.emp
        rw [z, hz.1] at this
        simp at this
      · rw [l1.len, l2.len]; exact big_size hz.2
      · have e0 : ys = [] := by
          have := l2.emp
          rw [z] at this
          cases ys with
          | nil => rfl
          | cons _ _ => simp at this
        subst e0
        rw [List.append_nil] at w
        exact wp_now G (show RepV B H (.tup xs) (.ref a) from ⟨a, vs, rfl, h1, k1, l1⟩) w
    · exact w.elim
  · split at w
    · rename_i xs ys e1 e2
      split at w
      · rename_i hz
        obtain ⟨a, vs, rfl, h1, l1⟩ := lstOf_at G rd e1
        obtain ⟨b, us, rfl, h2, l2⟩ := lstOf_at G re e2
        exact .inr (.inr (.inr ⟨a, b, vs, us, rfl, rfl, h1, h2, by rw [l1.len, l2.len]; exact big_size hz, wp_lst G (l1.app l2) w⟩))
      · exact w.elim
    · exact w.elim
def MulB (i j : Int) : Prop := (-18446744073709551616 < i ∧ i < 18446744073709551616) ∨ (-18446744073709551616 < j ∧ j < 18446744073709551616)
instance {i j : Int} : Decidable (MulB i j) := by unfold MulB; infer_instance
def mulM : OM := fun x y θ => match x, y with
  | .int i, .int j => if MulB i j then .ok (.int (i * j)) θ else .bad
  | .tup xs, .int k => if xs.isEmpty = false ∧ 0 ≤ k ∧ k < 1000 ∧ (xs.length : Int) * k ≤ 1000 then .ok (.tup (List.replicate k.toNat xs).flatten) θ else .bad
  | x, .int k => match lstOf θ x with
    | some xs => if -1000000 ≤ k ∧ k ≤ 1000000 ∧ xs.length * k.toNat ≤ BIG then .ok (.lst (List.replicate k.toNat xs).flatten) θ else .bad
    | _ => .bad
  | _, _ => .bad
@[simp] theorem mulM_int (i j : Int) (θ : Sto) : mulM (.int i) (.int j) θ = if MulB i j then .ok (.int (i * j)) θ else .bad := nr rfl
@[simp] theorem mulM_tup (xs : List D) (k : Int) (θ : Sto) : mulM (.tup xs) (.int k) θ = if xs.isEmpty = false ∧ 0 ≤ k ∧ k < 1000 ∧ (xs.length : Int) * k ≤ 1000 then .ok (.tup (List.replicate k.toNat xs).flatten) θ else .bad := nr rfl
@[simp] theorem mulM_lst (xs : List D) (k : Int) (θ : Sto) : mulM (.lst xs) (.int k) θ = if -1000000 ≤ k ∧ k ≤ 1000000 ∧ xs.length * k.toNat ≤ BIG then .ok (.lst (List.replicate k.toNat xs).flatten) θ else .bad := nr rfl
theorem RepL.rep {B : Bx} {H : Hp} {xs : List D} {vs : List V} (r : RepL B H xs vs) : ∀ k : Nat, RepL B H (List.replicate k xs).flatten (List.replicate k vs).flatten
  | 0 => rfl
  | k + 1 => by
    rw [List.replicate_succ, List.replicate_succ, List.flatten_cons, List.flatten_cons]
    exact r.app (RepL.rep r k)
theorem o_mul : OpR X (binaryOp .Mult) (rM X mulM) := by
  refine OpR.imp (op_mul.or (op_repT.or op_rep)) fun x y H Q q => ?_
  obtain ⟨σ, B, θ, d, e, G, rd, re, w⟩ := q
  unfold mulM at w
  split at w
  · split at w
    · rename_i hc
      exact .inl ⟨_, _, rd, re, hc.imp (fun h => ⟨by have := h.1; omega, by have := h.2; omega⟩) (fun h => ⟨by have := h.1; omega, by have := h.2; omega⟩), wp_now G (show RepV B H (.int _) (.int _) from rfl) w⟩
    · exact w.elim
  · split at w
    · rename_i xs k hz
      obtain ⟨a, vs, rfl, h1, k1, l1⟩ := rd
      obtain ⟨z1, z2, z3, z4⟩ := hz
      refine .inr (.inl ⟨a, k, vs, rfl, re, SqT.of h1, ?_, z2, z3, by rw [l1.len]; exact z4, fun z => ?_, fun _ => wp_tup G (l1.rep _) w⟩)
      · intro z
        have := l1.emp
        rw [z, z1] at this
        simp at this
      · subst z
        have e0 : (List.replicate (1 : Int).toNat xs).flatten = xs := by simp
        rw [e0] at w
        exact wp_now G (show RepV B H (.tup xs) (.ref a) from ⟨a, vs, rfl, h1, k1, l1⟩) w
    · exact w.elim
  · split at w
    · rename_i xs e1
      split at w
      · rename_i hz
        obtain ⟨a, vs, rfl, h1, l1⟩ := lstOf_at G rd e1
        exact .inr (.inr ⟨a, _, vs, rfl, re, h1, by have := hz.1; omega, by have := hz.2.1; omega, by rw [l1.len]; exact big_size hz.2.2, wp_lst G (l1.rep _) w⟩)
      · exact w.elim
    · exact w.elim
  · exact w.elim
def mNeg (f : EM) : EM := fun ρ θ => (f ρ θ).bind fun x θ => match x with
  | .int i => .ok (.int (-i)) θ
  | _ => .bad
mutual
def dat : D → PyData
  | .bl b => .bool b
  | .int i => .int i
  | .str x => .str x
  | .tup xs => .tuple (dats xs)
  | .lst xs => .list (dats xs)
  | _ => .none
def dats : List D → List PyData
  | [] => []
  | d :: r => dat d :: dats r
end
mutual
def plain : D → Bool
  | .non => true
  | .bl _ => true
  | .int _ => true
  | .str _ => true
  | .tup xs => plains xs
  | .lst xs => plains xs
  | _ => false
def plains : List D → Bool
  | [] => true
  | d :: r => plain d && plains r
end
mutual
theorem rdv {B : Bx} {H : Hp} {K : PySem.W.Frag} : ∀ {d : D} {v : V}, plain d = true → RepV B H d v → RdV K H v (dat d)
  | .non, _, _, r => by cases (show _ = V.non from r); exact .non
  | .bl b, _, _, r => by cases (show _ = V.bl b from r); exact .bl b
  | .int i, _, _, r => by cases (show _ = V.int i from r); exact .int i
  | .str x, _, _, r => by cases (show _ = V.str x from r); exact .str x
  | .tup xs, _, p, r => by
    obtain ⟨a, vs, rfl, h, _, l⟩ := r
    exact .tup (SqT.of h) (rdvs p l)
  | .lst xs, _, p, r => by
    obtain ⟨a, vs, rfl, h, _, l⟩ := r
    exact .lst (SqL.of h) (rdvs p l)
  | .ty _, _, p, _ => nomatch p
  | .scr _, _, p, _ => nomatch p
  | .ref _, _, p, _ => nomatch p
theorem rdvs {B : Bx} {H : Hp} {K : PySem.W.Frag} : ∀ {ds : List D} {vs : List V}, plains ds = true → RepL B H ds vs → RdVs K H vs (dats ds)
  | [], _, _, r => by cases (show _ = [] from r); exact .nil
  | d :: ds, _, p, r => by
    obtain ⟨v, q, rfl, hv, hq⟩ := r
    have p' : plain d = true ∧ plains ds = true := by simpa [plains] using p
    exact .cons (rdv p'.1 hv) (rdvs p'.2 hq)
end
mutual
theorem same_iff : ∀ {d e : D}, plain d = true → plain e = true → (same (dat d) (dat e) = true ↔ d = e) := fun {d e} p q => by
  cases d with
  | ty _ => exact nomatch p
  | scr _ => exact nomatch p
  | ref _ => exact nomatch p
  | non => cases e <;> simp_all [plain, dat, same]
  | bl _ => cases e <;> simp_all [plain, dat, same]
  | int _ => cases e <;> simp_all [plain, dat, same]
  | str _ => cases e <;> simp_all [plain, dat, same]
  | tup xs =>
    cases e with
    | tup ys =>
      simp only [dat, same, D.tup.injEq]
      exact sames_iff p q
    | ty _ => exact nomatch q
    | scr _ => exact nomatch q
    | ref _ => exact nomatch q
    | _ => simp [dat, same]
  | lst xs =>
    cases e with
    | lst ys =>
      simp only [dat, same, D.lst.injEq]
      exact sames_iff p q
    | ty _ => exact nomatch q
    | scr _ => exact nomatch q
    | ref _ => exact nomatch q
    | _ => simp [dat, same]
theorem sames_iff : ∀ {ds es : List D}, plains ds = true → plains es = true → (sameAll (dats ds) (dats es) = true ↔ ds = es)
  | [], [], _, _ => by simp [dats, sameAll]
  | [], _ :: _, _, _ => by simp [dats, sameAll]
  | _ :: _, [], _, _ => by simp [dats, sameAll]
  | d :: ds, e :: es, p, q => by
    have p' : plain d = true ∧ plains ds = true := by simpa [plains] using p
    have q' : plain e = true ∧ plains es = true := by simpa [plains] using q
    simp only [dats, sameAll, Bool.and_eq_true, List.cons.injEq]
    rw [same_iff p'.1 q'.1, sames_iff p'.2 q'.2]
end
def look (θ : Sto) (d : D) : D := match d with
  | .ref l => match θ[l]? with
    | some (.lst xs) => .lst xs
    | _ => .ref l
  | d => d
theorem look_rdv {B : Bx} {θ : Sto} {H : Hp} {K : PySem.W.Frag} (G : Good X.cl B θ H) {d : D} {v : V} (r : RepV B H d v) (p : plain (look θ d) = true) : RdV K H v (dat (look θ d)) := by
  cases d with
  | ref l =>
    unfold look at p ⊢
    simp only at p ⊢
    split at p
    · rename_i xs e
      obtain ⟨hl, rfl⟩ := r
      obtain ⟨vs, h1, h2⟩ := G.cel l _ e
      exact .lst (SqL.of h1) (rdvs p h2)
    · exact nomatch p
  | _ => exact rdv p r
structure CmpOk (x y : D) : Prop where
  px : plain x = true
  py : plain y = true
  sx : shaped (dat x) = true
  sy : shaped (dat y) = true
  nm : noMix (dat x) (dat y) = true
open Classical in
def eqM : OM := fun x y θ => if CmpOk (look θ x) (look θ y) then .ok (.bl (decide (look θ x = look θ y))) θ else .bad
open Classical in
def neM : OM := fun x y θ => if CmpOk (look θ x) (look θ y) then .ok (.bl (!decide (look θ x = look θ y))) θ else .bad
open Classical in
theorem same_dec {d e : D} (p : plain d = true) (q : plain e = true) : same (dat d) (dat e) = decide (d = e) := by
  rw [Bool.eq_iff_iff, same_iff p q, decide_eq_true_iff]
open Classical in
theorem o_eq (hu : X.A.units + 64 < cLine) : OpR X (compareOp .Eq) (rM X eqM) := by
  refine OpR.imp (op_eqD hu) fun x y H Q q => ?_
  obtain ⟨σ, B, θ, d, e, G, rd, re, w⟩ := q
  unfold eqM at w
  split at w
  · rename_i c
    refine ⟨_, _, look_rdv G rd c.px, look_rdv G re c.py, c.sx, c.sy, c.nm, ?_⟩
    rw [same_dec c.px c.py]
    exact wp_now G (show RepV B H (.bl _) (.bl _) from rfl) w
  · exact w.elim
open Classical in
theorem o_ne (hu : X.A.units + 64 < cLine) : OpR X (compareOp .NotEq) (rM X neM) := by
  refine OpR.imp (op_neD hu) fun x y H Q q => ?_
  obtain ⟨σ, B, θ, d, e, G, rd, re, w⟩ := q
  unfold neM at w
  split at w
  · rename_i c
    refine ⟨_, _, look_rdv G rd c.px, look_rdv G re c.py, c.sx, c.sy, c.nm, ?_⟩
    rw [same_dec c.px c.py]
    exact wp_now G (show RepV B H (.bl _) (.bl _) from rfl) w
  · exact w.elim
def allInt : List D → Bool
  | [] => true
  | .int _ :: r => allInt r
  | _ => false
def allStr : List D → Bool
  | [] => true
  | .str _ :: r => allStr r
  | _ => false
def memI (i : Int) : List D → Bool
  | .int j :: r => decide (j = i) || memI i r
  | _ => false
def memS (x : Str) : List D → Bool
  | .str y :: r => decide (y = x) || memS x r
  | _ => false
def inD (θ : Sto) (x y : D) : Option Bool := match seqOf θ y with
  | none => none
  | some ys => match x with
    | .int i => if allInt ys = true then some (memI i ys) else none
    | .str z => if allStr ys = true then some (memS z ys) else none
    | _ => none
def inM : OM := fun x y θ => match inD θ x y with
  | some k => .ok (.bl k) θ
  | none => .bad
def notInM : OM := fun x y θ => match inD θ x y with
  | some k => .ok (.bl (!k)) θ
  | none => .bad
theorem allInt_flat {B : Bx} {H : Hp} : ∀ {ys : List D} {vs : List V}, allInt ys = true → RepL B H ys vs → vs.all flatV = true ∧ ∀ i : Int, inV (.int i) vs = memI i ys
  | [], _, _, r => by cases (show _ = [] from r); exact ⟨rfl, fun _ => rfl⟩
  | d :: ys, _, h, r => by
    cases d with
    | int j =>
      obtain ⟨v, q, rfl, hv, hq⟩ := r
      cases (show v = V.int j from hv)
      obtain ⟨h1, h2⟩ := allInt_flat (show allInt ys = true from h) hq
      refine ⟨by simp [flatV] at h1 ⊢; exact h1, fun i => ?_⟩
      have := h2 i
      unfold inV at this ⊢
      rw [List.any_cons, this]
      show (j == i || memI i ys) = (decide (j = i) || memI i ys)
      rw [Bool.beq_eq_decide_eq]
    | _ => exact nomatch h
theorem allStr_flat {B : Bx} {H : Hp} : ∀ {ys : List D} {vs : List V}, allStr ys = true → RepL B H ys vs → vs.all flatV = true ∧ ∀ i : Str, inV (.str i) vs = memS i ys
  | [], _, _, r => by cases (show _ = [] from r); exact ⟨rfl, fun _ => rfl⟩
  | d :: ys, _, h, r => by
    cases d with
    | str j =>
      obtain ⟨v, q, rfl, hv, hq⟩ := r
      cases (show v = V.str j from hv)
      obtain ⟨h1, h2⟩ := allStr_flat (show allStr ys = true from h) hq
      refine ⟨by simp [flatV] at h1 ⊢; exact h1, fun i => ?_⟩
      have := h2 i
      unfold inV at this ⊢
      rw [List.any_cons, this]
      show (j == i || memS i ys) = (decide (j = i) || memS i ys)
      rw [Bool.beq_eq_decide_eq]
    | _ => exact nomatch h
theorem inD_ok {cl : Mo} {B : Bx} {θ : Sto} {H : Hp} (G : Good cl B θ H) {d e : D} {x y : V} {k : Bool} (rd : RepV B H d x) (re : RepV B H e y) (h : inD θ d e = some k) :
    ∃ p xs, y = .ref p ∧ (SqL cl.K H p xs ∨ SqT cl.K H p xs) ∧ flatV x = true ∧ xs.all flatV = true ∧ inV x xs = k := by
  unfold inD at h
  split at h
  · cases h
  · rename_i ys e1
    obtain ⟨a, vs, rfl, h1, h2⟩ := seqOf_at G re e1
    split at h
    · split at h
      · rename_i i hz
        cases h
        cases (show x = V.int i from rd)
        obtain ⟨q1, q2⟩ := allInt_flat hz h2
        exact ⟨a, vs, rfl, h1, rfl, q1, q2 i⟩
      · cases h
    · split at h
      · rename_i i hz
        cases h
        cases (show x = V.str i from rd)
        obtain ⟨q1, q2⟩ := allStr_flat hz h2
        exact ⟨a, vs, rfl, h1, rfl, q1, q2 i⟩
      · cases h
    · cases h
theorem o_in : OpR X (compareOp .In) (rM X inM) := by
  refine OpR.imp op_in_seq fun x y H Q q => ?_
  obtain ⟨σ, B, θ, d, e, G, rd, re, w⟩ := q
  unfold inM at w
  split at w
  · rename_i k e1
    obtain ⟨p, xs, h1, h2, h3, h4, h5⟩ := inD_ok G rd re e1
    exact ⟨p, xs, h1, h2, h3, h4, by rw [h5]; exact wp_now G (show RepV B H (.bl _) (.bl _) from rfl) w⟩
  · exact w.elim
theorem o_notin : OpR X (compareOp .NotIn) (rM X notInM) := by
  refine OpR.imp op_notIn_seq fun x y H Q q => ?_
  obtain ⟨σ, B, θ, d, e, G, rd, re, w⟩ := q
  unfold notInM at w
  split at w
  · rename_i k e1
    obtain ⟨p, xs, h1, h2, h3, h4, h5⟩ := inD_ok G rd re e1
    exact ⟨p, xs, h1, h2, h3, h4, by rw [h5]; exact wp_now G (show RepV B H (.bl _) (.bl _) from rfl) w⟩
  · exact w.elim
def isNon : D → Bool
  | .non => true
  | _ => false
theorem isNon_ok {B : Bx} {H : Hp} {d : D} {v : V} (r : RepV B H d v) : isNon d = decide (v = .non) := by
  cases d with
  | non => cases (show v = .non from r); simp [isNon]
  | bl b => cases (show v = .bl b from r); simp [isNon]
  | int i => cases (show v = .int i from r); simp [isNon]
  | str x => cases (show v = .str x from r); simp [isNon]
  | ty n => cases (show v = .ty n from r); simp [isNon]
  | scr ns => obtain ⟨a, rfl, _⟩ := r; simp [isNon]
  | tup xs => obtain ⟨a, o, rfl, _⟩ := r; simp [isNon]
  | lst xs => obtain ⟨a, o, rfl, _⟩ := r; simp [isNon]
  | ref l => obtain ⟨_, rfl⟩ := r; simp [isNon]
def isM : OM := fun x y θ => match y with
  | .non => .ok (.bl (isNon x)) θ
  | .bl c => match x with
    | .bl b => .ok (.bl (b == c)) θ
    | _ => .bad
  | _ => .bad
def isNotM : OM := fun x y θ => match y with
  | .non => .ok (.bl (!isNon x)) θ
  | .bl c => match x with
    | .bl b => .ok (.bl (!(b == c))) θ
    | _ => .bad
  | _ => .bad
theorem op_isT : OpR X (compareOp .Is) (fun x y H Q => ∃ b c : Bool, x = .bl b ∧ y = .bl c ∧ Q (.bl (b == c)) H) := by
  intro pins s σ H x y v u Q I rx ry h
  obtain ⟨b, c, rfl, rfl, q⟩ := h
  cases rx
  cases ry
  have e : (Value.bool b == Value.bool c) = (b == c) := by cases b <;> cases c <;> rfl
  exact wpAny_is_plain rfl ⟨.bl _, H, I, rfl, by rw [e]; exact q⟩
theorem o_is : OpR X (compareOp .Is) (rM X isM) := by
  refine OpR.imp (op_isN.or op_isT) fun x y H Q q => ?_
  obtain ⟨σ, B, θ, d, e, G, rd, re, w⟩ := q
  unfold isM at w
  split at w
  · refine .inl ⟨re, ?_⟩
    have q := wp_now G (show RepV B H (.bl _) (.bl _) from rfl) w
    rw [isNon_ok rd] at q
    exact q
  · split at w
    · exact .inr ⟨_, _, rd, re, wp_now G (show RepV B H (.bl _) (.bl _) from rfl) w⟩
    · exact w.elim
  · exact w.elim
theorem o_isnot : OpR X (compareOp .IsNot) (rM X isNotM) := by
  refine OpR.imp (op_notN.or op_notT) fun x y H Q q => ?_
  obtain ⟨σ, B, θ, d, e, G, rd, re, w⟩ := q
  unfold isNotM at w
  split at w
  · refine .inl ⟨re, ?_⟩
    have q := wp_now G (show RepV B H (.bl _) (.bl _) from rfl) w
    rw [isNon_ok rd] at q
    exact q
  · split at w
    · exact .inr ⟨_, _, rd, re, wp_now G (show RepV B H (.bl _) (.bl _) from rfl) w⟩
    · exact w.elim
  · exact w.elim
end
end
end L2.MM
set_option Elab.async false
set_option linter.all false
set_option maxRecDepth 100000
set_option maxHeartbeats 4000000
namespace L2.MM
open PySem PySem.Spec PyProof.Rows PySem.SeqAt
noncomputable section
variable {X : Cx}
section
def ixD (θ : Sto) (x : D) (i : Int) : Option D := match x with
  | .str z => if z.length ≤ BIG then (atI z.cps.toList i).map fun c => .str ⟨#[c]⟩ else none
  | x => (seqOf θ x).bind (atI · i)
def ixM : OM := fun x y θ => match y with
  | .int i => match ixD θ x i with
    | some d => .ok d θ
    | none => .bad
  | _ => .bad
theorem RepL.atI {B : Bx} {H : Hp} {xs : List D} {vs : List V} {i : Int} {d : D} (r : RepL B H xs vs) (h : atI xs i = some d) : ∃ v, atI vs i = some v ∧ RepV B H d v := by
  unfold L2.atI at h ⊢
  rw [r.len]
  cases e : ixN xs.length i with
  | none => rw [e] at h; cases h
  | some j =>
    rw [e] at h
    exact r.get h
theorem ix_ok : IxR X (rM X ixM) := by
  refine IxR.imp ix_seq fun x y H Q q => ?_
  obtain ⟨σ, B, θ, d, e, G, rd, re, w⟩ := q
  unfold ixM at w
  split at w
  · rename_i i
    split at w
    · rename_i r e1
      have sq : (seqOf θ d).bind (L2.atI · i) = some r → rIx X.K x y H Q := fun h => by
        cases e2 : seqOf θ d with
        | none => rw [e2] at h; cases h
        | some xs =>
          rw [e2] at h
          obtain ⟨a, vs, rfl, h1, h2⟩ := seqOf_at G rd e2
          obtain ⟨v, h3, h4⟩ := h2.atI h
          have q := wp_now G h4 w
          rcases h1 with h1 | h1
          · exact .inl ⟨a, vs, i, v, rfl, re, h1, h3, q⟩
          · exact .inr (.inl ⟨a, vs, i, v, rfl, re, h1, h3, q⟩)
      cases d with
      | str z =>
        simp only [ixD] at e1
        split at e1
        · rename_i hz
          cases e2 : L2.atI z.cps.toList i with
          | none => rw [e2] at e1; cases e1
          | some c =>
            rw [e2] at e1
            cases e1
            exact .inr (.inr ⟨z, i, c, rd, re, big_size hz, e2, wp_now G (show RepV B H (.str _) (.str _) from rfl) w⟩)
        · cases e1
      | non => exact sq e1
      | bl _ => exact sq e1
      | int _ => exact sq e1
      | ty _ => exact sq e1
      | scr _ => exact sq e1
      | tup _ => exact sq e1
      | lst _ => exact sq e1
      | ref _ => exact sq e1
    · exact w.elim
  · exact w.elim
abbrev PM := List Sl → Sto → R (Option Int)
def EqO (_ : Bx) (_ : Hp) (a b : Option Int) : Prop := a = b
def tMO (X : Cx) (f : PM) : TO := fun σ H Q => ∃ B θ ρ, Frm X.cl B θ ρ σ H ∧ wpR X σ EqO B H (f ρ θ) Q
def MO (X : Cx) (e : Option Expr) (f : PM) : Prop := PO X e (tMO X f)
theorem tMO_mono {f : PM} {σ : St} {H : Hp} {Q Q' : Option Int → Hp → Prop} (h : tMO X f σ H Q) (hQ : ∀ v H', Q v H' → Q' v H') : tMO X f σ H Q' := let ⟨B, θ, ρ, F, w⟩ := h; ⟨B, θ, ρ, F, w.mono hQ⟩
theorem stepO {σ : St} {H : Hp} {γ δ : Type} {Rel' : Bx → Hp → γ → δ → Prop} {B : Bx} {θ : Sto} {ρ : List Sl} {f : PM} {k : Option Int → Sto → R γ} {Q : δ → Hp → Prop} (F : Frm X.cl B θ ρ σ H) (h : wpR X σ Rel' B H ((f ρ θ).bind k) Q) :
    tMO X f σ H (fun c H1 => ∃ B1 θ1, ExtE B B1 H H1 ∧ Frm X.cl B1 θ1 ρ σ H1 ∧ wpR X σ Rel' B1 H1 (k c θ1) Q) :=
  ⟨B, θ, ρ, F, (wpR.bind (Rel := EqO) h).mono fun v H1 ⟨B1, θ1, d, E, G, r, w⟩ => by cases (show d = v from r); exact ⟨B1, θ1, E, F.ext E G, w⟩⟩
def mNoPart : PM := fun _ θ => .ok none θ
def mPart (f : EM) : PM := fun ρ θ => (f ρ θ).bind fun x θ => match x with
  | .int i => .ok (some i) θ
  | _ => .bad
theorem PO.imp {e : Option Expr} {t t' : TO} (h : PO X e t) (hi : ∀ σ H Q, t' σ H Q → t σ H Q) : PO X e t' := fun pins s σ H Q I q => h pins s σ H Q I (hi σ H Q q)
theorem mo_none : MO X none mNoPart := PO.imp po_none fun σ H Q h => by
  obtain ⟨B, θ, ρ, F, w⟩ := h
  exact wp_now (Rel := EqO) F.good rfl w
theorem mo_some {e : Expr} {f : EM} (h : ME X e f) : MO X (some e) (mPart f) := PO.imp (po_some h) fun σ H Q h => by
  obtain ⟨B, θ, ρ, F, w⟩ := h
  refine tM_mono (step F w) ?_
  rintro v H1 ⟨B1, θ1, x, E1, F1, rx, w1⟩
  cases x with
  | int i => exact ⟨i, rx, wp_now (Rel := EqO) F1.good rfl w1⟩
  | _ => exact w1.elim
def cutL {α : Type} (xs : List α) (lo hi : Option Int) : List α := (xs.drop (HT.sIx xs.length 0 lo)).take (HT.sIx xs.length xs.length hi - HT.sIx xs.length 0 lo)
theorem RepL.cut {B : Bx} {H : Hp} {xs : List D} {vs : List V} (r : RepL B H xs vs) (lo hi : Option Int) : RepL B H (cutL xs lo hi) (cutV vs lo hi) := by
  unfold cutL cutV
  rw [r.len]
  exact (r.drop _).take _
def sliceD (θ : Sto) (x : D) (lo hi : Option Int) : Option D := match x with
  | .tup xs => if HT.sIx xs.length 0 lo = 0 ∧ HT.sIx xs.length xs.length hi = xs.length then none else some (.tup (cutL xs lo hi))
  | x => (lstOf θ x).map fun xs => .lst (cutL xs lo hi)
def mSl (f : EM) (lo hi : PM) : EM := fun ρ θ => (f ρ θ).bind fun x θ => (lo ρ θ).bind fun l θ => (hi ρ θ).bind fun h θ => match sliceD θ x l h with
  | some d => .ok d θ
  | none => .bad
theorem SlR.imp {r r' : V → Option Int → Option Int → Hp → VK → Prop} (h : SlR X r) (hi : ∀ x l u H Q, r' x l u H Q → r x l u H Q) : SlR X r' := by
  intro pins s σ H x v vl vu lo hi' sl Q I rx hs pl pu q
  exact h pins s σ H x v vl vu lo hi' sl Q I rx hs pl pu (hi _ _ _ _ _ q)
theorem me_slice {e : Expr} {lo hi : Option Expr} {f : EM} {fl fh : PM} {pos p2 : Pos} (he : ME X e f) (hl : MO X lo fl) (hh : MO X hi fh) : ME X (.Subscript e (.Slice lo hi none p2) pos) (mSl f fl fh) := by
  refine PE.imp (pe_slice (sl_list.or sl_tup) he hl hh) fun σ H Q h => ?_
  obtain ⟨B, θ, ρ, F, w⟩ := h
  refine tM_mono (step F w) ?_
  rintro v H1 ⟨B1, θ1, x, E1, F1, rx, w1⟩
  refine tMO_mono (stepO F1 w1) ?_
  rintro l H2 ⟨B2, θ2, E2, F2, w2⟩
  refine tMO_mono (stepO F2 w2) ?_
  rintro u H3 ⟨B3, θ3, E3, F3, w3⟩
  have rx3 := rx.ext (E2.trans E3).toExtS
  have lst : ∀ d, (lstOf θ3 x).map (fun xs => D.lst (cutL xs l u)) = some d → wpR X σ RepV B3 H3 (R.ok d θ3) Q → rSlL X.K v l u H3 Q := fun d h w => by
    cases e2 : lstOf θ3 x with
    | none => rw [e2] at h; cases h
    | some xs =>
      rw [e2] at h
      cases h
      obtain ⟨a, vs, rfl, h1, h2⟩ := lstOf_at F3.good rx3 e2
      exact ⟨a, vs, rfl, SqL.of h1, wp_lst F3.good (h2.cut l u) w⟩
  split at w3
  · rename_i d e1
    cases x with
    | tup xs =>
      simp only [sliceD] at e1
      split at e1
      · cases e1
      · rename_i hw
        cases e1
        obtain ⟨a, vs, rfl, h1, k1, l1⟩ := rx3
        exact .inr ⟨a, vs, rfl, SqT.of h1, by rw [l1.len]; exact hw, wp_tup F3.good (l1.cut l u) w3⟩
    | non => exact .inl (lst d e1 w3)
    | bl _ => exact .inl (lst d e1 w3)
    | int _ => exact .inl (lst d e1 w3)
    | str _ => exact .inl (lst d e1 w3)
    | ty _ => exact .inl (lst d e1 w3)
    | scr _ => exact .inl (lst d e1 w3)
    | lst _ => exact .inl (lst d e1 w3)
    | ref _ => exact .inl (lst d e1 w3)
  · exact w3.elim
def pickL {α : Type} (xs : List α) (lo hi st : Option Int) : List α := (sliceRange (sliceBounds lo hi st xs.length).1 (sliceBounds lo hi st xs.length).2.1 (sliceBounds lo hi st xs.length).2.2).filterMap (xs[·]?)
theorem RepL.none_of : ∀ {B : Bx} {H : Hp} {xs : List D} {vs : List V} {i : Nat}, RepL B H xs vs → xs[i]? = none → vs[i]? = none := fun {B H xs vs i} r e => by
  have h1 := r.len
  have h2 : xs.length ≤ i := List.getElem?_eq_none_iff.mp e
  exact List.getElem?_eq_none_iff.mpr (by omega)
theorem RepL.pick {B : Bx} {H : Hp} {xs : List D} {vs : List V} (r : RepL B H xs vs) : ∀ ks : List Nat, RepL B H (ks.filterMap (xs[·]?)) (ks.filterMap (vs[·]?))
  | [] => rfl
  | k :: ks => by
    cases e : xs[k]? with
    | none => rw [List.filterMap_cons_none e, List.filterMap_cons_none (r.none_of e)]; exact r.pick ks
    | some x =>
      obtain ⟨u, e', q⟩ := r.get e
      rw [List.filterMap_cons_some e, List.filterMap_cons_some e']
      exact ⟨_, _, rfl, q, r.pick ks⟩
def mSl3 (f : EM) (lo hi st : PM) : EM := fun ρ θ => (f ρ θ).bind fun x θ => (lo ρ θ).bind fun l θ => (hi ρ θ).bind fun h θ => (st ρ θ).bind fun s θ => match lstOf θ x with
  | some xs => if s ≠ some 0 ∧ (pickL xs l h s).length ≤ BIG then .ok (.lst (pickL xs l h s)) θ else .bad
  | none => .bad
theorem me_slice3 {e sp : Expr} {lo hi : Option Expr} {f : EM} {fl fh fs : PM} {pos p2 : Pos} (he : ME X e f) (hl : MO X lo fl) (hh : MO X hi fh) (hs : MO X (some sp) fs) : ME X (.Subscript e (.Slice lo hi (some sp) p2) pos) (mSl3 f fl fh fs) := by
  refine PE.imp (pe_slice3 he hl hh hs) fun σ H Q h => ?_
  obtain ⟨B, θ, ρ, F, w⟩ := h
  refine tM_mono (step F w) ?_
  rintro v H1 ⟨B1, θ1, x, E1, F1, rx, w1⟩
  refine tMO_mono (stepO F1 w1) ?_
  rintro l H2 ⟨B2, θ2, E2, F2, w2⟩
  refine tMO_mono (stepO F2 w2) ?_
  rintro u H3 ⟨B3, θ3, E3, F3, w3⟩
  refine tMO_mono (stepO F3 w3) ?_
  rintro s H4 ⟨B4, θ4, E4, F4, w4⟩
  split at w4
  · rename_i xs e1
    split at w4
    · rename_i hz
      obtain ⟨a, vs, rfl, h1, h2⟩ := lstOf_at F4.good (rx.ext ((E2.trans E3).trans E4).toExtS) e1
      have p : RepL B4 H4 (pickL xs l u s) (pickV vs l u s) := by
        unfold pickL pickV
        rw [h2.len]
        exact h2.pick _
      exact ⟨a, vs, rfl, SqL.of h1, hz.1, by rw [p.len]; exact big_size hz.2, wp_lst F4.good p w4⟩
    · exact w4.elim
  · exact w4.elim
def lenG : GM := fun ds θ => match ds with
  | [.str z] => if z.length ≤ BIG then .ok (.int z.length) θ else .bad
  | [d] => match seqOf θ d with
    | some xs => .ok (.int xs.length) θ
    | none => .bad
  | _ => .bad
theorem RepL.one {B : Bx} {H : Hp} {d : D} {vs : List V} (r : RepL B H [d] vs) : ∃ v, vs = [v] ∧ RepV B H d v := by
  obtain ⟨v, q, rfl, hv, hq⟩ := r
  cases (show q = [] from hq)
  exact ⟨v, rfl, hv⟩
theorem RepL.two {B : Bx} {H : Hp} {d e : D} {vs : List V} (r : RepL B H [d, e] vs) : ∃ v u, vs = [v, u] ∧ RepV B H d v ∧ RepV B H e u := by
  obtain ⟨v, q, rfl, hv, hq⟩ := r
  obtain ⟨u, rfl, hu⟩ := hq.one
  exact ⟨v, u, rfl, hv, hu⟩
theorem c_len : CallR X (.builtin "len") (rC X lenG) := by
  refine CallR.imp (call_len_str.or call_len_seq) fun vs H Q q => ?_
  obtain ⟨σ, B, θ, ds, G, r, w⟩ := q
  unfold lenG at w
  split at w
  · split at w
    · rename_i z hz
      obtain ⟨v, rfl, rv⟩ := r.one
      cases (show v = V.str z from rv)
      exact .inl ⟨z, rfl, big_size hz, wp_now G (show RepV B H (.int _) (.int _) from rfl) w⟩
    · exact w.elim
  · split at w
    · rename_i xs e1
      obtain ⟨v, rfl, rv⟩ := r.one
      obtain ⟨a, us, rfl, h1, h2⟩ := seqOf_at G rv e1
      exact .inr ⟨a, us, rfl, h1, by rw [h2.len]; exact wp_now G (show RepV B H (.int _) (.int _) from rfl) w⟩
    · exact w.elim
  · exact w.elim
def intsD : List D → Option (List Int)
  | [] => some []
  | .int i :: r => (intsD r).map (i :: ·)
  | _ => none
@[simp] theorem ints_map (ns : List Int) : intsD (ns.map D.int) = some ns := by
  induction ns with
  | nil => rfl
  | cons n r ih => simp [intsD, ih]
theorem ints_eq : ∀ {ds : List D} {ns : List Int}, intsD ds = some ns → ds = ns.map D.int
  | [], _, h => by cases h; rfl
  | d :: r, ns, h => by
    cases d with
    | int i =>
      simp only [intsD] at h
      cases e : intsD r with
      | none => rw [e] at h; cases h
      | some ms => rw [e] at h; cases h; rw [ints_eq e]; rfl
    | _ => cases h
theorem ints_rep {B : Bx} {H : Hp} : ∀ {ns : List Int} {vs : List V}, RepL B H (ns.map D.int) vs → vs = ns.map V.int
  | [], _, r => r
  | n :: ns, _, r => by
    obtain ⟨v, q, rfl, hv, hq⟩ := r
    cases (show v = V.int n from hv)
    rw [ints_rep hq]; rfl
def blsD : List D → Option (List Bool)
  | [] => some []
  | .bl i :: r => (blsD r).map (i :: ·)
  | _ => none
@[simp] theorem bls_map (ns : List Bool) : blsD (ns.map D.bl) = some ns := by
  induction ns with
  | nil => rfl
  | cons n r ih => simp [blsD, ih]
def sumG : GM := fun ds θ => match ds with
  | [d] => match (lstOf θ d).bind intsD with
    | some ns => .ok (.int ns.sum) θ
    | none => .bad
  | _ => .bad
theorem c_sum (hc : X.calm = true := by rfl) : CallR X (.builtin "sum") (rC X sumG) := by
  refine CallR.imp (call_sum hc) fun vs H Q q => ?_
  obtain ⟨σ, B, θ, ds, G, r, w⟩ := q
  unfold sumG at w
  split at w
  · rename_i d
    split at w
    · rename_i ns e1
      obtain ⟨v, rfl, rv⟩ := r.one
      cases e2 : lstOf θ d with
      | none => rw [e2] at e1; cases e1
      | some xs =>
        rw [e2] at e1
        obtain ⟨a, us, rfl, h1, h2⟩ := lstOf_at G rv e2
        rw [ints_eq (show intsD xs = some ns from e1)] at h2
        rw [ints_rep h2] at h1
        exact ⟨a, ns, rfl, SqL.of h1, wp_now G (show RepV B H (.int _) (.int _) from rfl) w⟩
    · exact w.elim
  · exact w.elim
def allG : GM := fun ds θ => match ds with
  | [d] => match (lstOf θ d).bind blsD with
    | some ns => .ok (.bl (ns.all id)) θ
    | none => .bad
  | _ => .bad
def minG : GM := fun ds θ => match ds with
  | [.int i, .int j] => .ok (.int (if j < i then j else i)) θ
  | [.int i, .int j, .int k] => .ok (.int (if j < i then (if k < j then k else j) else (if k < i then k else i))) θ
  | _ => .bad
def maxG : GM := fun ds θ => match ds with
  | [.int i, .int j] => .ok (.int (if j > i then j else i)) θ
  | _ => .bad
theorem RepL.three {B : Bx} {H : Hp} {d e f : D} {vs : List V} (r : RepL B H [d, e, f] vs) : ∃ v u w, vs = [v, u, w] ∧ RepV B H d v ∧ RepV B H e u ∧ RepV B H f w := by
  obtain ⟨v, q, rfl, hv, hq⟩ := r
  obtain ⟨u, w, rfl, hu, hw⟩ := hq.two
  exact ⟨v, u, w, rfl, hv, hu, hw⟩
theorem call_min3 (hc : X.calm = true) : CallR X (.builtin "min") (fun xs H Q => ∃ i j k, xs = [.int i, .int j, .int k] ∧ Q (.int (if j < i then (if k < j then k else j) else (if k < i then k else i))) H) := by
  intro pins s σ H xs us Q I r h
  obtain ⟨i, j, k, rfl, q⟩ := h
  cases r with
  | cons r1 rr =>
    obtain ⟨u2, u3, e, r2, r3⟩ := vals2 rr
    subst e
    obtain ⟨t1, rfl⟩ := r1
    obtain ⟨t2, rfl⟩ := r2
    obtain ⟨t3, rfl⟩ := r3
    refine min_three_ints (I.ok.hd hc) fun h' tk kk => ⟨_, H, I.kept kk, ?_, q⟩
    by_cases c1 : j < i
    · by_cases c2 : k < j
      · simp only [c1, c2, if_true]; exact ⟨_, rfl⟩
      · simp only [c1, c2, if_true, if_false]; exact ⟨_, rfl⟩
    · by_cases c2 : k < i
      · simp only [c1, c2, if_true, if_false]; exact ⟨_, rfl⟩
      · simp only [c1, c2, if_false]; exact ⟨_, rfl⟩
theorem c_min (hc : X.calm = true := by rfl) : CallR X (.builtin "min") (rC X minG) := by
  refine CallR.imp ((call_min2 hc).or (call_min3 hc)) fun vs H Q q => ?_
  obtain ⟨σ, B, θ, ds, G, r, w⟩ := q
  unfold minG at w
  split at w
  · rename_i i j
    obtain ⟨v, u, rfl, rv, ru⟩ := r.two
    cases (show v = V.int i from rv)
    cases (show u = V.int j from ru)
    exact .inl ⟨i, j, rfl, wp_now G (show RepV B H (.int _) (.int _) from rfl) w⟩
  · rename_i i j k
    obtain ⟨v, u, z, rfl, rv, ru, rz⟩ := r.three
    cases (show v = V.int i from rv)
    cases (show u = V.int j from ru)
    cases (show z = V.int k from rz)
    exact .inr ⟨i, j, k, rfl, wp_now G (show RepV B H (.int _) (.int _) from rfl) w⟩
  · exact w.elim
def intG : GM := fun ds θ => match ds with
  | [.int i] => .ok (.int i) θ
  | [.bl k] => .ok (.int (if k then 1 else 0)) θ
  | _ => .bad
theorem c_int : CallR X (.type "int") (rC X intG) := by
  refine CallR.imp call_int1 fun vs H Q q => ?_
  obtain ⟨σ, B, θ, ds, G, r, w⟩ := q
  unfold intG at w
  split at w
  · rename_i i
    obtain ⟨v, rfl, rv⟩ := r.one
    cases (show v = V.int i from rv)
    exact .inl ⟨i, rfl, wp_now G (show RepV B H (.int _) (.int _) from rfl) w⟩
  · rename_i k
    obtain ⟨v, rfl, rv⟩ := r.one
    cases (show v = V.bl k from rv)
    exact .inr ⟨k, rfl, wp_now G (show RepV B H (.int _) (.int _) from rfl) w⟩
  · exact w.elim
def listG : GM := fun ds θ => match ds with
  | [d] => match seqOf θ d with
    | some xs => .ok (.lst xs) θ
    | none => .bad
  | _ => .bad
theorem c_list : CallR X (.type "list") (rC X listG) := by
  refine CallR.imp call_list_of fun vs H Q q => ?_
  obtain ⟨σ, B, θ, ds, G, r, w⟩ := q
  unfold listG at w
  split at w
  · split at w
    · rename_i xs e1
      obtain ⟨v, rfl, rv⟩ := r.one
      obtain ⟨a, us, rfl, h1, h2⟩ := seqOf_at G rv e1
      exact ⟨a, us, rfl, h1, wp_lst G h2 w⟩
    · exact w.elim
  · exact w.elim
def tupleG : GM := fun ds θ => match ds with
  | [.tup xs] => .ok (.tup xs) θ
  | [d] => match lstOf θ d with
    | some xs => .ok (.tup xs) θ
    | none => .bad
  | _ => .bad
theorem c_tuple : CallR X (.type "tuple") (rC X tupleG) := by
  refine CallR.imp call_tuple_of fun vs H Q q => ?_
  obtain ⟨σ, B, θ, ds, G, r, w⟩ := q
  unfold tupleG at w
  split at w
  · rename_i xs
    obtain ⟨v, rfl, rv⟩ := r.one
    obtain ⟨a, us, rfl, h1, k1, l1⟩ := id rv
    exact ⟨a, us, rfl, .inr ⟨SqT.of h1, wp_now G rv w⟩⟩
  · split at w
    · rename_i xs e1
      obtain ⟨v, rfl, rv⟩ := r.one
      obtain ⟨a, us, rfl, h1, h2⟩ := lstOf_at G rv e1
      exact ⟨a, us, rfl, .inl ⟨SqL.of h1, wp_tup G h2 w⟩⟩
    · exact w.elim
  · exact w.elim
inductive Ty | non | bl | int | str | lst | tup
def Ty.nm : Ty → String
  | .non => "NoneType" | .bl => "bool" | .int => "int" | .str => "str" | .lst => "list" | .tup => "tuple"
def tyD (θ : Sto) : D → Option Ty
  | .non => some .non
  | .bl _ => some .bl
  | .int _ => some .int
  | .str _ => some .str
  | .tup _ => some .tup
  | .scr _ => none
  | d => (lstOf θ d).map fun _ => .lst
def isT : Ty → String → Option Bool
  | .non, "int" => some false | .non, "bool" => some false | .non, "list" => some false | .non, "tuple" => some false | .non, "str" => some false
  | .bl, "int" => some true | .bl, "bool" => some true | .bl, "list" => some false | .bl, "tuple" => some false | .bl, "str" => some false
  | .int, "int" => some true | .int, "bool" => some false | .int, "list" => some false | .int, "tuple" => some false | .int, "str" => some false
  | .str, "int" => some false | .str, "bool" => some false | .str, "list" => some false | .str, "tuple" => some false | .str, "str" => some true
  | .lst, "int" => some false | .lst, "bool" => some false | .lst, "list" => some true | .lst, "tuple" => some false | .lst, "str" => some false
  | .tup, "int" => some false | .tup, "bool" => some false | .tup, "list" => some false | .tup, "tuple" => some true | .tup, "str" => some false
  | _, _ => none
theorem isT_ok {K : PySem.W.Frag} {t : Ty} {n : String} {b : Bool} (h : isT t n = some b) : PySem.W.kitOne K (.type t.nm) (.type n) = some b := by
  unfold isT at h
  split at h <;> first | (cases h; with_unfolding_all rfl) | cases h
def instG : GM := fun ds θ => match ds with
  | [d, .ty n] => match (tyD θ d).bind (isT · n) with
    | some b => .ok (.bl b) θ
    | none => .bad
  | _ => .bad
theorem tyD_ok {B : Bx} {θ : Sto} {H : Hp} {K : PySem.W.Frag} (G : Good X.cl B θ H) {d : D} {v : V} {t : Ty} (r : RepV B H d v) (h : tyD θ d = some t) : TyOf K H v (.type t.nm) := by
  cases d with
  | non => cases (show v = .non from r); cases h; exact .non
  | bl b => cases (show v = .bl b from r); cases h; exact .bl b
  | int b => cases (show v = .int b from r); cases h; exact .int b
  | str b => cases (show v = .str b from r); cases h; exact .str b
  | tup xs => obtain ⟨a, vs, rfl, h1, _⟩ := r; cases h; exact .tup h1
  | scr xs => cases h
  | lst xs => obtain ⟨a, vs, rfl, h1, _⟩ := r; cases h; exact .lst h1
  | ref l =>
    cases e : lstOf θ (.ref l) with
    | none => simp only [tyD, e] at h; cases h
    | some xs =>
      simp only [tyD, e] at h
      cases h
      obtain ⟨a, us, rfl, h1, h2⟩ := lstOf_at G r e
      exact .lst h1
  | ty n => cases h
theorem c_inst : CallR X (.builtin "isinstance") (rC X instG) := by
  refine CallR.imp call_isinst fun vs H Q q => ?_
  obtain ⟨σ, B, θ, ds, G, r, w⟩ := q
  unfold instG at w
  split at w
  · rename_i d n
    split at w
    · rename_i b e1
      obtain ⟨v, u, rfl, rv, ru⟩ := r.two
      cases (show u = V.ty n from ru)
      cases e2 : tyD θ d with
      | none => rw [e2] at e1; cases e1
      | some t =>
        rw [e2] at e1
        exact ⟨v, n, _, b, rfl, tyD_ok G rv e2, isT_ok e1, wp_now G (show RepV B H (.bl _) (.bl _) from rfl) w⟩
    · exact w.elim
  · exact w.elim
end
end
end L2.MM
set_option Elab.async false
set_option linter.all false
set_option maxRecDepth 100000
set_option maxHeartbeats 4000000
namespace L2.MM
open PySem PySem.Spec PyProof.Rows PySem.SeqAt
noncomputable section
variable {X : Cx}
inductive Src where
  | seq (d : D) | rng (lo : Int) (n : Nat)
def Src.items (θ : Sto) : Src → Option (List D)
  | .seq d => seqOf θ d
  | .rng lo n => some ((List.range n).map fun (i : Nat) => D.int (lo + (i : Int)))
def SrcRep (K : PySem.W.Frag) (B : Bx) (H : Hp) : Src → It → Prop
  | .seq d, J => ∃ a, RepV B H d (.ref a) ∧ J = (match d with | .tup _ => Itt K a | _ => Itl K a)
  | .rng lo n, J => J = Itr lo n
abbrev IM := List Sl → Sto → R Src
section
def tMI (X : Cx) (f : IM) : TI := fun σ H Q => ∃ B θ ρ, Frm X.cl B θ ρ σ H ∧ wpR X σ (SrcRep X.K) B H (f ρ θ) Q
def MI (X : Cx) (tg iter : Expr) (f : IM) : Prop := PI X tg iter (tMI X f)
theorem PI.imp {tg iter : Expr} {t t' : TI} (h : PI X tg iter t) (hi : ∀ σ H Q, t' σ H Q → t σ H Q) : PI X tg iter t' := fun pins s σ H Q I q => h pins s σ H Q I (hi σ H Q q)
theorem SrcRep.ext {K : PySem.W.Frag} {B B' : Bx} {H H' : Hp} {S : Src} {J : It} (r : SrcRep K B H S J) (E : ExtS B B' H H') : SrcRep K B' H' S J := by
  cases S with
  | seq d => obtain ⟨a, h, e⟩ := r; exact ⟨a, h.ext E, e⟩
  | rng lo n => exact r
theorem src_go {cl : Mo} {B : Bx} {θ : Sto} {H : Hp} {S : Src} {J : It} {xs : List D} (G : Good cl B θ H) (r : SrcRep cl.K B H S J) (h : S.items θ = some xs) :
    (∀ i d, xs[i]? = some d → J.go i H ∧ ∀ x H', J.yld i H x H' → H' = H ∧ RepV B H d x) ∧ J.stop xs.length H := by
  cases S with
  | rng lo n =>
    cases (show J = Itr lo n from r)
    cases h
    refine ⟨fun i d e => ?_, by show n ≤ _; simp⟩
    rw [List.getElem?_map] at e
    by_cases hi : i < n
    · rw [List.getElem?_range hi] at e
      cases e
      exact ⟨hi, fun x H' y => ⟨y.1, y.2⟩⟩
    · rw [List.getElem?_eq_none (by simpa using hi)] at e
      cases e
  | seq d =>
    obtain ⟨a, rv, e⟩ := r
    cases d with
    | tup ys =>
      obtain ⟨a', vs, e1, h1, _, h2⟩ := rv
      cases e1
      cases h
      simp only at e
      subst e
      refine ⟨fun i d e => ?_, ⟨vs, SqT.of h1, by rw [h2.len]; exact Nat.le_refl _⟩⟩
      obtain ⟨v, q1, q2⟩ := h2.get e
      refine ⟨⟨vs, v, SqT.of h1, q1⟩, fun x H' y => ⟨y.1, ?_⟩⟩
      have := y.2 vs (SqT.of h1)
      rw [q1] at this
      cases this
      exact q2
    | scr ns =>
      cases h
      obtain ⟨a', vs', e1, h1, _⟩ := seqOf_at G rv (show seqOf θ (.scr ns) = some (ns.map D.int) from rfl)
      cases e1
      simp only at e
      subst e
      have hS : SqL cl.K H a (ns.map V.int) := by
        obtain ⟨a', e1, h1⟩ := rv
        cases e1
        rcases h1 with ⟨o, h1, _⟩ | h1
        · exact .inl (.inr ⟨o, h1⟩)
        · exact .inr (G.kc a ns h1)
      have h2 : RepL B H (ns.map D.int) (ns.map V.int) := RepL.map (f := D.int) (g := V.int) (fun _ => rfl) ns
      refine ⟨fun i d e => ?_, ⟨ns.map V.int, hS, by simp⟩⟩
      obtain ⟨v, q1, q2⟩ := h2.get e
      refine ⟨⟨_, v, hS, q1⟩, fun x H' y => ⟨y.1, ?_⟩⟩
      have := y.2 _ hS
      rw [q1] at this
      cases this
      exact q2
    | lst ys =>
      obtain ⟨a', vs, e1, h1, h2⟩ := lstOf_at G rv (show lstOf θ (.lst ys) = some xs from h)
      cases e1
      simp only at e
      subst e
      refine ⟨fun i d e => ?_, ⟨vs, SqL.of h1, by rw [h2.len]; exact Nat.le_refl _⟩⟩
      obtain ⟨v, q1, q2⟩ := h2.get e
      refine ⟨⟨vs, v, SqL.of h1, q1⟩, fun x H' y => ⟨y.1, ?_⟩⟩
      have := y.2 vs (SqL.of h1)
      rw [q1] at this
      cases this
      exact q2
    | ref l =>
      obtain ⟨a', vs, e1, h1, h2⟩ := lstOf_at G rv (show lstOf θ (.ref l) = some xs from h)
      cases e1
      simp only at e
      subst e
      refine ⟨fun i d e => ?_, ⟨vs, SqL.of h1, by rw [h2.len]; exact Nat.le_refl _⟩⟩
      obtain ⟨v, q1, q2⟩ := h2.get e
      refine ⟨⟨vs, v, SqL.of h1, q1⟩, fun x H' y => ⟨y.1, ?_⟩⟩
      have := y.2 vs (SqL.of h1)
      rw [q1] at this
      cases this
      exact q2
    | non => cases h
    | bl _ => cases h
    | int _ => cases h
    | str _ => cases h
    | ty _ => cases h
def iSeq (K : PySem.W.Frag) (tl : TE) : TI := fun σ H R => tl σ H fun x H1 => ∃ a, x = .ref a ∧ (((∃ xs, SqL K H1 a xs) ∧ R (Itl K a) H1) ∨ ((∃ xs, SqT K H1 a xs) ∧ R (Itt K a) H1))
theorem pi_seq {tg l : Expr} {tl : TE} (hl : PE X l tl) : PI X tg l (iSeq X.K tl) := by
  intro pins s σ H R I h
  refine thn (hl pins s σ H _ I h) fun v s1 ⟨x, H1, I1, r1, q1⟩ => ?_
  obtain ⟨a, e, q1⟩ := q1
  subst e
  cases r1
  rcases q1 with ⟨⟨xs, hq⟩, q⟩ | ⟨⟨xs, hq⟩, q⟩
  · obtain ⟨its, rv, p, hz⟩ := I1.list hq
    refine wpAny_pyIter_list p.isList ?_
    refine ⟨s1.heap.objs.size, [s1.heap.objs.size], _, _, H1, rfl, I1.kept (t' := s1.toks) fun b o e => Heap.get?_push_of_some _ e, turn_list a _, ⟨_, Heap.get?_push_size _ rfl, rfl, rfl⟩, fun b hb => ?_, q⟩
    have e : b = s1.heap.objs.size := by simpa using hb
    subst e
    exact I1.fpOk (Nat.le_refl _) (I1.hok.fresh (Nat.le_refl _))
  · obtain ⟨its, rv, p, hz⟩ := I1.tuple hq
    refine wpAny_pyIter_tuple (show s1.heap.IsTuple a its.toArray from p) ?_
    refine ⟨s1.heap.objs.size, [s1.heap.objs.size], _, _, H1, rfl, I1.kept (t' := s1.toks) fun b o e => Heap.get?_push_of_some _ e, turn_tuple a _, ⟨_, Heap.get?_push_size _ rfl, rfl, rfl⟩, fun b hb => ?_, q⟩
    have e : b = s1.heap.objs.size := by simpa using hb
    subst e
    exact I1.fpOk (Nat.le_refl _) (I1.hok.fresh (Nat.le_refl _))
def mIn (f : EM) : IM := fun ρ θ => (f ρ θ).bind fun d θ => match seqOf θ d with
  | some _ => .ok (.seq d) θ
  | none => .bad
theorem mi_seq {tg l : Expr} {f : EM} (h : ME X l f) : MI X tg l (mIn f) := by
  refine PI.imp (pi_seq h) fun σ H R q => ?_
  obtain ⟨B, θ, ρ, F, w⟩ := q
  refine tM_mono (step F w) ?_
  rintro v H1 ⟨B1, θ1, d, E1, F1, rd, w1⟩
  split at w1
  · rename_i xs e
    obtain ⟨a, vs, rfl, h1, h2⟩ := seqOf_at F1.good rd e
    refine ⟨a, rfl, ?_⟩
    have fin := fun J (hJ : SrcRep X.K B1 H1 (.seq d) J) => wp_now (Rel := SrcRep X.K) F1.good hJ w1
    cases d with
    | tup ys =>
      obtain ⟨a', us, e1, g1, _, _⟩ := id rd
      cases e1
      exact .inr ⟨⟨us, SqT.of g1⟩, fin _ ⟨a, rd, rfl⟩⟩
    | scr ns =>
      have hS : SqL X.K H1 a (ns.map V.int) := by
        obtain ⟨a', e1, g1⟩ := id rd
        cases e1
        rcases g1 with ⟨o, g1, _⟩ | g1
        · exact .inl (.inr ⟨o, g1⟩)
        · exact .inr (F1.good.kc a ns g1)
      exact .inl ⟨⟨_, hS⟩, fin _ ⟨a, rd, rfl⟩⟩
    | lst ys =>
      obtain ⟨a', us, e1, g1, _⟩ := lstOf_at F1.good rd (show lstOf θ1 (.lst ys) = some xs from e)
      cases e1
      exact .inl ⟨⟨us, SqL.of g1⟩, fin _ ⟨a, rd, rfl⟩⟩
    | ref l =>
      obtain ⟨a', us, e1, g1, _⟩ := lstOf_at F1.good rd (show lstOf θ1 (.ref l) = some xs from e)
      cases e1
      exact .inl ⟨⟨us, SqL.of g1⟩, fin _ ⟨a, rd, rfl⟩⟩
    | non => cases e
    | bl _ => cases e
    | int _ => cases e
    | str _ => cases e
    | ty _ => cases e
  · exact w1.elim
def mRng1 (f : AM) : IM := fun ρ θ => (f ρ θ).bind fun ds θ => match ds with
  | [.int j] => if -1000000 ≤ j ∧ j ≤ 1000000 then .ok (.rng 0 j.toNat) θ else .bad
  | _ => .bad
def mRng2 (f : AM) : IM := fun ρ θ => (f ρ θ).bind fun ds θ => match ds with
  | [.int i, .int j] => if -1000000 ≤ i ∧ i ≤ 1000000 ∧ -1000000 ≤ j ∧ j ≤ 1000000 then .ok (.rng i (j - i).toNat) θ else .bad
  | _ => .bad
theorem mi_range1 {tg a : Expr} {f : AM} {p pos : Pos} (hm : X.mg "range" = none) (ha : MA X [a] f) (hg : Gl X "range" := by rfl) (hs : starEach [a] X.env = [(false, eval a X.env)] := by rfl) : MI X tg (.Call (.Name "range" p) [a] [] pos) (mRng1 f) := by
  refine PI.imp (pi_range1 hg hm ha hs) fun σ H R q => ?_
  obtain ⟨B, θ, ρ, F, w⟩ := q
  refine tMA_mono (stepA F w) ?_
  rintro vs H1 ⟨B1, θ1, ds, E1, F1, rd, w1⟩
  split at w1
  · rename_i j
    split at w1
    · rename_i hj
      obtain ⟨v, rfl, rv⟩ := rd.one
      cases (show v = V.int j from rv)
      exact ⟨j, rfl, by have := hj.1; omega, by have := hj.2; omega, wp_now (Rel := SrcRep X.K) F1.good (show SrcRep X.K B1 H1 (.rng 0 j.toNat) _ from rfl) w1⟩
    · exact w1.elim
  · exact w1.elim
def inEnv (src : List Nat) (ρ : List Sl) (x : D) : List Sl := Sl.val x :: src.map fun (j : Nat) => match ρ[j]? with
  | some (Sl.val d) => Sl.val d
  | _ => Sl.no
theorem Frm.inner {B : Bx} {θ : Sto} {ρ : List Sl} {σ : St} {H : Hp} (F : Frm X.cl B θ ρ σ H) (src : List Nat) {x : D} {v : V} (r : RepV B H x v) : Frm X.cl B θ (inEnv src ρ x) (L2.inner src σ (some v)) H := by
  have key : ∀ (i : Nat) (s : Sl), (inEnv src ρ x)[i]? = some s → s = .no ∨ ∃ d, s = .val d ∧ ∃ v', (L2.inner src σ (some v))[i]? = some (some v') ∧ RepV B H d v' := fun i s e => by
    cases i with
    | zero => simp [inEnv] at e; subst e; exact .inr ⟨x, rfl, v, by simp [L2.inner], r⟩
    | succ i =>
      simp only [inEnv, List.getElem?_cons_succ, List.getElem?_map] at e
      simp only [L2.inner, List.getElem?_cons_succ, List.getElem?_map]
      cases q : src[i]? with
      | none => rw [q] at e; cases e
      | some j =>
        rw [q] at e
        simp only [Option.map_some, Option.some.injEq] at e
        split at e
        · rename_i d ed
          subst e
          obtain ⟨v', h1, h2⟩ := F.val j d ed
          exact .inr ⟨d, rfl, v', by simp [h1], h2⟩
        · exact .inl e.symm
  refine ⟨F.good, by simp [inEnv, L2.inner], fun i d e => ?_, fun i xs e => ?_, fun i j xs ys a _ e _ => ?_⟩
  · rcases key i _ e with z | ⟨d', z, v', h1, h2⟩
    · cases z
    · cases z; exact ⟨v', h1, h2⟩
  · rcases key i _ e with z | ⟨d', z, _⟩ <;> cases z
  · rcases key i _ e with z | ⟨d', z, _⟩ <;> cases z
open Classical in
def compL (S : Src) (all : List D) (elt : D → Sto → R D) : List D → List D → Sto → R D
  | [], acc, θ => if S.items θ = some all ∧ acc.length ≤ BIG then .ok (.lst acc) θ else .bad
  | x :: r, acc, θ => if S.items θ = some all then (elt x θ).bind fun y θ => compL S all elt r (acc ++ [y]) θ else .bad
def mComp (fi : IM) (src : List Nat) (elt : EM) : EM := fun ρ θ => (fi ρ θ).bind fun S θ => match S.items θ with
  | some xs => if xs.length ≤ BIG then compL S xs (fun x θ => elt (inEnv src ρ x) θ) xs [] θ else .bad
  | none => .bad
open Classical in
theorem tM_comp {fi : IM} {src : List Nat} {elt : EM} (σ : St) (H : Hp) (Q : VK) (h : tM X (mComp fi src elt) σ H Q) : tLc (tMI X fi) src (tM X elt) σ H Q := by
  obtain ⟨B, θ, ρ, F, w⟩ := h
  refine ⟨B, θ, ρ, F, (wpR.bind (Rel := SrcRep X.K) w).mono ?_⟩
  rintro J H1 ⟨B1, θ1, S, E1, G1, rJ, w1⟩
  split at w1
  · rename_i xs e1
    split at w1
    · rename_i hz
      refine ⟨xs.length, fun i ys H' => ∃ B' θ' acc, ExtE B1 B' H1 H' ∧ Good X.cl B' θ' H' ∧ RepL B' H' acc ys ∧ wpR X σ RepV B' H' (compL S xs (fun x θ => elt (inEnv src ρ x) θ) (xs.drop i) acc θ') Q, big_size hz, ?_, ?_, ?_⟩
      · exact ⟨B1, θ1, [], ExtE.refl _ _, G1, rfl, w1⟩
      · rintro i ys H' hi ⟨B2, θ2, acc, E2, G2, racc, w2⟩
        rw [List.drop_eq_getElem_cons hi] at w2
        unfold compL at w2
        split at w2
        · rename_i e2
          obtain ⟨g1, g2⟩ := (src_go G2 (rJ.ext E2.toExtS) e2).1 i xs[i] (List.getElem?_eq_getElem hi)
          refine ⟨g1, fun y H3 hy => ?_⟩
          obtain ⟨rfl, ry⟩ := g2 y H3 hy
          have F2 := (F.ext (E1.trans E2) G2).inner src ry
          refine ⟨B2, θ2, _, F2, (wpR.bind (Rel := RepV) w2).mono ?_⟩
          rintro z H4 ⟨B4, θ4, d, E4, G4, rd, w4⟩
          exact ⟨B4, θ4, acc ++ [d], E2.trans E4, G4, (racc.ext E4.toExtS).app ⟨z, [], rfl, rd, rfl⟩, w4⟩
        · exact w2.elim
      · rintro ys H' ⟨B2, θ2, acc, E2, G2, racc, w2⟩
        rw [List.drop_length] at w2
        unfold compL at w2
        split at w2
        · rename_i e2
          exact ⟨(src_go G2 (rJ.ext E2.toExtS) e2.1).2, wp_lst G2 racc w2⟩
        · exact w2.elim
    · exact w1.elim
  · exact w1.elim
theorem me_lc {x : Str} {px pos : Pos} {iter elt : Expr} {scope : Scope} {N' : List Str} {src : List Nat} {sc : Scope} {N : List Str} {fi : IM} {fe : EM} (S : CompScope scope sc x N N' src) (hsc : X.env.scope = sc) (hN : X.N = N) (hi : MI X (.Name x px) iter fi)
    (helt : ∀ (cl : List (Str × Addr)) (C : Addr) (s₀ : Shared) (H₀ : Hp) (fp : List Addr), ME (X.comp scope N' cl C s₀ H₀ fp) elt fe) (hcm : X.calm = true := by rfl) (hs : ∀ v, foldedSetIterable iter X.env v = pure v := by intro _; rfl) :
    ME X (.ListComp elt [⟨.Name x px, iter, [], 0⟩] scope pos) (mComp fi src fe) :=
  PE.imp (pe_lc (te := tM X fe) S hsc hN hi (fun cl C s₀ H₀ fp => helt cl C s₀ H₀ fp) hcm hs) tM_comp
inductive Fl where
  | nx | rt (d : D) | bk | ct
abbrev SM := List Sl → Sto → R (Fl × List Sl)
def endOf (Dn : Ends) (B : Bx) (σ : St) (H : Hp) : Fl → Prop
  | .nx => Dn.nx σ H
  | .bk => Dn.bk σ H
  | .ct => Dn.ct σ H
  | .rt d => ∀ v, RepV B H d v → Dn.rt v H
def wpS (X : Cx) (σ : St) (B : Bx) (H : Hp) (r : R (Fl × List Sl)) (Dn : Ends) : Prop := match r with
  | .ok (fl, ρ') θ' => ∀ B' H' σ', ExtS B B' H H' → Frm X.cl B' θ' ρ' σ' H' → endOf Dn B' σ' H' fl
  | .ex c θ' => XE X σ B H c θ'
  | .bad => False
def tMS (X : Cx) (f : SM) : TS := fun Dn σ H => ∃ B θ ρ, Frm X.cl B θ ρ σ H ∧ wpS X σ B H (f ρ θ) Dn
def MS (X : Cx) (st : Stmt) (f : SM) : Prop := PS X st (tMS X f)
def MSs (X : Cx) (sts : List Stmt) (f : SM) : Prop := PSs X sts (tMS X f)
theorem PS.imp {st : Stmt} {t t' : TS} (h : PS X st t) (hi : ∀ D σ H, t' D σ H → t D σ H) : PS X st t' := fun pins s σ H D I q => h pins s σ H D I (hi D σ H q)
theorem PSs.imp {st : List Stmt} {t t' : TS} (h : PSs X st t) (hi : ∀ D σ H, t' D σ H → t D σ H) : PSs X st t' := fun pins s σ H D I q => h pins s σ H D I (hi D σ H q)
theorem wpS.trans {σ σ' : St} {B B' : Bx} {H H' : Hp} {r : R (Fl × List Sl)} {Dn : Ends} (h : wpS X σ B H r Dn) (E : ExtS B B' H H') : wpS X σ' B' H' r Dn := by
  cases r with
  | ok a θ' => exact fun B2 H2 σ2 e g => h B2 H2 σ2 (E.trans e) g
  | ex c θ' => exact h
  | bad => exact h
theorem wpS.bind {α β : Type} {Rel : Bx → Hp → α → β → Prop} {σ : St} {B : Bx} {H : Hp} {r : R α} {k : α → Sto → R (Fl × List Sl)} {Dn : Ends} (h : wpS X σ B H (r.bind k) Dn) :
    wpR X σ Rel B H r (fun b H1 => ∃ B1 θ1 a, ExtE B B1 H H1 ∧ Good X.cl B1 θ1 H1 ∧ Rel B1 H1 a b ∧ wpS X σ B1 H1 (k a θ1) Dn) := by
  cases r with
  | ok a θ' => exact fun B1 H1 b E g q => ⟨B1, θ', a, E, g, q, wpS.trans h E.toExtS⟩
  | ex c θ' => exact h
  | bad => exact h
theorem stepS {σ : St} {H : Hp} {B : Bx} {θ : Sto} {ρ : List Sl} {f : EM} {k : D → Sto → R (Fl × List Sl)} {Dn : Ends} (F : Frm X.cl B θ ρ σ H) (h : wpS X σ B H ((f ρ θ).bind k) Dn) :
    tM X f σ H (fun v H1 => ∃ B1 θ1 d, ExtE B B1 H H1 ∧ Frm X.cl B1 θ1 ρ σ H1 ∧ RepV B1 H1 d v ∧ wpS X σ B1 H1 (k d θ1) Dn) :=
  ⟨B, θ, ρ, F, (wpS.bind (Rel := RepV) h).mono fun v H1 ⟨B1, θ1, d, E, G, r, w⟩ => ⟨B1, θ1, d, E, F.ext E G, r, w⟩⟩
theorem stepST {σ : St} {H : Hp} {B : Bx} {θ : Sto} {ρ : List Sl} {f : TMr} {k : Bool → Sto → R (Fl × List Sl)} {Dn : Ends} (F : Frm X.cl B θ ρ σ H) (h : wpS X σ B H ((f ρ θ).bind k) Dn) :
    tMT X f σ H (fun c H1 => ∃ B1 θ1, ExtE B B1 H H1 ∧ Frm X.cl B1 θ1 ρ σ H1 ∧ wpS X σ B1 H1 (k c θ1) Dn) :=
  ⟨B, θ, ρ, F, (wpS.bind (Rel := EqB) h).mono fun v H1 ⟨B1, θ1, d, E, G, r, w⟩ => by cases (show d = v from r); exact ⟨B1, θ1, E, F.ext E G, w⟩⟩
theorem wpS_now {σ : St} {B : Bx} {H : Hp} {θ : Sto} {ρ : List Sl} {fl : Fl} {Dn : Ends} (F : Frm X.cl B θ ρ σ H) (h : wpS X σ B H (.ok (fl, ρ) θ) Dn) : endOf Dn B σ H fl := h B H σ (ExtS.refl B H) F
def mSkip : SM := fun ρ θ => .ok (.nx, ρ) θ
def thenS (r : R (Fl × List Sl)) (k : SM) : R (Fl × List Sl) := r.bind fun p θ => match p with
  | (.nx, ρ) => k ρ θ
  | p => .ok p θ
def mSeq (f g : SM) : SM := fun ρ θ => thenS (f ρ θ) g
theorem mss_nil : MSs X [] mSkip := PSs.imp pss_nil fun D σ H h => by
  obtain ⟨B, θ, ρ, F, w⟩ := h
  exact wpS_now F w
theorem wpS.seq {σ : St} {B : Bx} {H : Hp} {r : R (Fl × List Sl)} {g : SM} {Dn : Ends} (w : wpS X σ B H (thenS r g) Dn) : wpS X σ B H r { Dn with nx := tMS X g Dn } := by
  cases r with
  | ex c θ' => exact w
  | bad => exact w
  | ok p θ' =>
    obtain ⟨fl, ρ'⟩ := p
    intro B' H' σ' E F
    cases fl with
    | nx => exact ⟨B', θ', ρ', F, wpS.trans w E⟩
    | bk => exact w B' H' σ' E F
    | ct => exact w B' H' σ' E F
    | rt d => exact w B' H' σ' E F
theorem mss_cons {st : Stmt} {rest : List Stmt} {f g : SM} (h1 : MS X st f) (h2 : MSs X rest g) : MSs X (st :: rest) (mSeq f g) := PSs.imp (pss_cons h1 h2) fun D σ H h => by
  obtain ⟨B, θ, ρ, F, w⟩ := h
  exact ⟨B, θ, ρ, F, wpS.seq w⟩
theorem mss_one {st : Stmt} {f : SM} (h1 : MS X st f) : MSs X [st] f := pss_one h1
def mBad : SM := fun _ _ => .bad
theorem ms_never {st : Stmt} : MS X st mBad := fun _ _ _ _ _ _ h => by obtain ⟨_, _, _, _, w⟩ := h; exact w.elim
def mExpr (f : EM) : SM := fun ρ θ => (f ρ θ).bind fun _ θ => .ok (.nx, ρ) θ
theorem ms_expr {e : Expr} {f : EM} {pos : Pos} (he : ME X e f) (hs : swapsWith e none pos.line X.env = pure false := by rfl) : MS X (.Expr e pos) (mExpr f) := PS.imp (ps_expr he hs) fun D σ H h => by
  obtain ⟨B, θ, ρ, F, w⟩ := h
  refine tM_mono (stepS F w) ?_
  rintro v H1 ⟨B1, θ1, d, E1, F1, rd, w1⟩
  exact wpS_now F1 w1
def mRet (f : EM) : SM := fun ρ θ => (f ρ θ).bind fun d θ => .ok (.rt d, ρ) θ
theorem ms_ret {e : Expr} {f : EM} {pos : Pos} (he : ME X e f) : MS X (.Return (some e) pos) (mRet f) := PS.imp (ps_ret he) fun D σ H h => by
  obtain ⟨B, θ, ρ, F, w⟩ := h
  refine tM_mono (stepS F w) ?_
  rintro v H1 ⟨B1, θ1, d, E1, F1, rd, w1⟩
  exact wpS_now F1 w1 v rd
def mRetN : SM := fun ρ θ => .ok (.rt .non, ρ) θ
theorem ms_retN {pos : Pos} : MS X (.Return none pos) mRetN := PS.imp ps_retN fun D σ H h => by
  obtain ⟨B, θ, ρ, F, w⟩ := h
  exact wpS_now F w .non rfl
def mIf (t : TMr) (f g : SM) : SM := fun ρ θ => (t ρ θ).bind fun k θ => if k = true then f ρ θ else g ρ θ
theorem ms_if {c : Expr} {a b : List Stmt} {t : TMr} {f g : SM} {pos : Pos} (hc : MT X c t) (ha : MSs X a f) (hb : MSs X b g) : MS X (.If c a b pos) (mIf t f g) := PS.imp (ps_if hc ha hb) fun D σ H h => by
  obtain ⟨B, θ, ρ, F, w⟩ := h
  refine tMT_mono (stepST F w) ?_
  rintro k H1 ⟨B1, θ1, E1, F1, w1⟩
  cases k with
  | true => rw [if_pos rfl] at w1 ⊢; exact ⟨B1, θ1, ρ, F1, w1⟩
  | false => rw [if_neg Bool.false_ne_true] at w1 ⊢; exact ⟨B1, θ1, ρ, F1, w1⟩
theorem Frm.set {B : Bx} {θ : Sto} {ρ : List Sl} {σ : St} {H : Hp} (F : Frm X.cl B θ ρ σ H) (i : Nat) {d : D} {v : V} (r : RepV B H d v) : Frm X.cl B θ (ρ.set i (.val d)) (σ.set i (some v)) H := by
  have oth : ∀ (j : Nat) (s : Sl), (ρ.set i (Sl.val d))[j]? = some s → (j = i ∧ s = .val d ∧ j < σ.length) ∨ (j ≠ i ∧ ρ[j]? = some s) := fun j s e => by
    by_cases q : j = i
    · subst q
      have hl : j < ρ.length := by
        have := (List.getElem?_eq_some_iff.mp e).1
        simpa using this
      rw [List.getElem?_set_self hl] at e
      cases e
      exact .inl ⟨rfl, rfl, by rw [← F.len]; exact hl⟩
    · rw [List.getElem?_set_ne (Ne.symm q)] at e
      exact .inr ⟨q, e⟩
  refine ⟨F.good, by simp [F.len], fun j e h => ?_, fun j xs h => ?_, fun j k xs ys a hne h1 h2 h3 => ?_⟩
  · rcases oth j _ h with ⟨rfl, z, hl⟩ | ⟨q, z⟩
    · cases z; exact ⟨v, by rw [List.getElem?_set_self hl], r⟩
    · rw [List.getElem?_set_ne (Ne.symm q)]; exact F.val j e z
  · rcases oth j _ h with ⟨rfl, z, hl⟩ | ⟨q, z⟩
    · cases z
    · rw [List.getElem?_set_ne (Ne.symm q)]; exact F.own j xs z
  · rcases oth j _ h1 with ⟨_, z, _⟩ | ⟨q1, z1⟩
    · cases z
    · rcases oth k _ h2 with ⟨_, z, _⟩ | ⟨q2, z2⟩
      · cases z
      · rw [List.getElem?_set_ne (Ne.symm q1)] at h3
        rw [List.getElem?_set_ne (Ne.symm q2)]
        exact F.ne j k xs ys a hne z1 z2 h3
def mSet (i : Nat) (f : EM) : SM := fun ρ θ => (f ρ θ).bind fun d θ => .ok (.nx, ρ.set i (.val d)) θ
theorem ms_set (i : Nat) {x : Str} {e : Expr} {f : EM} {pos pos' : Pos} (hN : X.N.Nodup) (he : ME X e f) (hi : X.N[i]? = some x := by rfl) (hx : Loc X.env.scope x := by first | exact Or.inl rfl | exact Or.inr rfl)
    (hs : swapsWith e (some (.Name x pos')) pos.line X.env = pure false := by rfl) (hf : X.fn x = true ∨ X.env.scope.names.lookup x = some .local := by first | exact .inl rfl | exact .inr rfl) : MS X (.Assign [.Name x pos'] e pos) (mSet i f) :=
  PS.imp (ps_set hN hi hx he hs hf) fun D σ H h => by
  obtain ⟨B, θ, ρ, F, w⟩ := h
  refine tM_mono (stepS F w) ?_
  rintro v H1 ⟨B1, θ1, d, E1, F1, rd, w1⟩
  exact w1 B1 H1 _ (ExtS.refl _ _) (F1.set i rd)
end
end
end L2.MM
set_option Elab.async false
set_option linter.all false
set_option maxRecDepth 100000
set_option maxHeartbeats 4000000
namespace L2.MM
open PySem PySem.Spec PyProof.Rows PySem.SeqAt
noncomputable section
variable {X : Cx}
def loopK (k : SM) : Fl × List Sl → Sto → R (Fl × List Sl)
  | (.nx, ρ), θ => k ρ θ
  | (.ct, ρ), θ => k ρ θ
  | (.bk, ρ), θ => .ok (.nx, ρ) θ
  | (.rt d, ρ), θ => .ok (.rt d, ρ) θ
theorem wpS.loop {σ : St} {B : Bx} {H : Hp} {r : R (Fl × List Sl)} {k : SM} {Dn : Ends} (w : wpS X σ B H (r.bind (loopK k)) Dn) :
    wpS X σ B H r { Dn with nx := fun σ' H' => ∃ B' θ' ρ', ExtS B B' H H' ∧ Frm X.cl B' θ' ρ' σ' H' ∧ wpS X σ' B' H' (k ρ' θ') Dn, ct := fun σ' H' => ∃ B' θ' ρ', ExtS B B' H H' ∧ Frm X.cl B' θ' ρ' σ' H' ∧ wpS X σ' B' H' (k ρ' θ') Dn, bk := Dn.nx } := by
  cases r with
  | ex c θ' => exact w
  | bad => exact w
  | ok p θ' =>
    obtain ⟨fl, ρ'⟩ := p
    intro B' H' σ' E F
    cases fl with
    | nx => exact ⟨B', θ', ρ', E, F, wpS.trans w E⟩
    | ct => exact ⟨B', θ', ρ', E, F, wpS.trans w E⟩
    | bk => exact w B' H' σ' E F
    | rt d => exact w B' H' σ' E F
theorem wpS.mono {σ : St} {B : Bx} {H : Hp} {r : R (Fl × List Sl)} {D D' : Ends} (w : wpS X σ B H r D) (h1 : ∀ σ H, D.nx σ H → D'.nx σ H) (h2 : ∀ v H, D.rt v H → D'.rt v H) (h3 : ∀ σ H, D.bk σ H → D'.bk σ H) (h4 : ∀ σ H, D.ct σ H → D'.ct σ H) : wpS X σ B H r D' := by
  cases r with
  | ex c θ' => exact w
  | bad => exact w
  | ok p θ' =>
    obtain ⟨fl, ρ'⟩ := p
    intro B' H' σ' E F
    have := w B' H' σ' E F
    cases fl with
    | nx => exact h1 _ _ this
    | ct => exact h4 _ _ this
    | bk => exact h3 _ _ this
    | rt d => exact fun v r => h2 _ _ (this v r)
abbrev TgM := D → List Sl → Option (List Sl)
def tMG (X : Cx) (g : TgM) : TG := fun v σ H Q => ∃ B θ ρ d ρ', Frm X.cl B θ ρ σ H ∧ RepV B H d v ∧ g d ρ = some ρ' ∧ ∀ σ', Frm X.cl B θ ρ' σ' H → Q σ' H
def MG (X : Cx) (tg : Expr) (g : TgM) : Prop := PG X tg (tMG X g)
theorem PG.imp {tg : Expr} {t t' : TG} (h : PG X tg t) (hi : ∀ v σ H Q, t' v σ H Q → t v σ H Q) : PG X tg t' := fun pins s σ H v u Q I r q => h pins s σ H v u Q I r (hi v σ H Q q)
def gNm (i : Nat) : TgM := fun d ρ => some (ρ.set i (.val d))
theorem mg_name (i : Nat) {x : Str} {pos : Pos} (hN : X.N.Nodup) (hi : X.N[i]? = some x := by rfl) (hx : Loc X.env.scope x := by first | exact Or.inl rfl | exact Or.inr rfl) (hf : X.fn x = true ∨ X.env.scope.names.lookup x = some .local := by first | exact .inl rfl | exact .inr rfl) : MG X (.Name x pos) (gNm i) :=
  PG.imp (pg_name hN hi hx hf) fun v σ H Q h => by
  obtain ⟨B, θ, ρ, d, ρ', F, r, e, q⟩ := h
  cases e
  exact q _ (F.set i r)
open Classical in
def forL (S : Src) (all : List D) (tg : TgM) (body : SM) : List D → SM
  | [] => fun ρ θ => if S.items θ = some all then .ok (.nx, ρ) θ else .bad
  | x :: r => fun ρ θ => if S.items θ = some all then (match tg x ρ with
    | none => .bad
    | some ρ1 => (body ρ1 θ).bind (loopK (forL S all tg body r))) else .bad
def mFor (fi : IM) (tg : TgM) (body : SM) : SM := fun ρ θ => (fi ρ θ).bind fun S θ => match S.items θ with
  | some xs => forL S xs tg body xs ρ θ
  | none => .bad
open Classical in
theorem ms_for {tg iter : Expr} {body : List Stmt} {fi : IM} {g : TgM} {fb : SM} {pos : Pos} (hp : PassesOwn (model X.prog X.w) X.A X.env X.xe) (hi : MI X tg iter fi) (hg : MG X tg g) (hb : MSs X body fb) (hc : X.calm = true := by rfl)
    (hs : ∀ x, foldedSetIterable iter X.env x = pure x := by intro _; rfl) : MS X (.For tg iter body [] pos) (mFor fi g fb) :=
  PS.imp (ps_for hp hc hi hg hb hs) fun Dn σ H h => by
  obtain ⟨B, θ, ρ, F, w⟩ := h
  refine ⟨B, θ, ρ, F, (wpS.bind (Rel := SrcRep X.K) w).mono ?_⟩
  rintro J H1 ⟨B1, θ1, S, E1, G1, rJ, w1⟩
  split at w1
  · rename_i xs e1
    refine ⟨fun i m σ H => ∃ B θ ρ, Frm X.cl B θ ρ σ H ∧ SrcRep X.K B H S J ∧ m = xs.length - i ∧ i ≤ xs.length ∧ wpS X σ B H (forL S xs g fb (xs.drop i) ρ θ) Dn, ⟨xs.length, B1, θ1, ρ, F.ext E1 G1, rJ, rfl, Nat.zero_le _, w1⟩, ?_⟩
    rintro i m σ2 H2 ⟨B2, θ2, ρ2, F2, rJ2, rfl, hi2, w2⟩
    by_cases hlt : i < xs.length
    · rw [List.drop_eq_getElem_cons hlt] at w2
      unfold forL at w2
      split at w2
      · rename_i e2
        obtain ⟨g1, g2⟩ := (src_go F2.good rJ2 e2).1 i xs[i] (List.getElem?_eq_getElem hlt)
        split at w2
        · exact w2.elim
        · rename_i ρ3 e3
          refine .inr ⟨g1, fun σ' H' => ∃ B' θ' ρ', ExtS B2 B' H2 H' ∧ Frm X.cl B' θ' ρ' σ' H' ∧ wpS X σ' B' H' (forL S xs g fb (xs.drop (i + 1)) ρ' θ') Dn, ?_, fun x H' hy => ?_⟩
          · rintro σ' H' ⟨B', θ', ρ', E', F', w'⟩
            exact ⟨xs.length - (i + 1), by omega, B', θ', ρ', F', rJ2.ext E', rfl, hlt, w'⟩
          · obtain ⟨rfl, rx⟩ := g2 x H' hy
            refine ⟨B2, θ2, ρ2, xs[i], ρ3, F2, rx, e3, fun σ' F' => ⟨B2, θ2, ρ3, F', ?_⟩⟩
            have w3 := wpS.loop w2
            exact wpS.trans w3 (ExtS.refl _ _)
      · exact w2.elim
    · have e : i = xs.length := by omega
      subst e
      rw [List.drop_length] at w2
      unfold forL at w2
      split at w2
      · rename_i e2
        exact .inl ⟨(src_go F2.good rJ2 e2).2, wpS_now F2 w2⟩
      · exact w2.elim
  · exact w1.elim
def whileL (t : TMr) (body : SM) : Nat → SM
  | 0 => mBad
  | n + 1 => fun ρ θ => (t ρ θ).bind fun k θ => if k = true then (body ρ θ).bind (loopK (whileL t body n)) else .ok (.nx, ρ) θ
theorem ms_while (n : Nat) {c : Expr} {body : List Stmt} {t : TMr} {fb : SM} {pos : Pos} (hp : PassesOwn (model X.prog X.w) X.A X.env X.xe) (hc : MT X c t) (hb : MSs X body fb) : MS X (.While c body [] pos) (whileL t fb n) :=
  PS.imp (ps_while hp hc hb) fun Dn σ H h => by
  obtain ⟨B, θ, ρ, F, w⟩ := h
  refine ⟨fun m σ H => ∃ B θ ρ, Frm X.cl B θ ρ σ H ∧ wpS X σ B H (whileL t fb m ρ θ) Dn, ⟨n, B, θ, ρ, F, w⟩, ?_⟩
  rintro m σ2 H2 ⟨B2, θ2, ρ2, F2, w2⟩
  cases m with
  | zero => exact w2.elim
  | succ m =>
    refine tMT_mono (stepST F2 w2) ?_
    rintro k H3 ⟨B3, θ3, E3, F3, w3⟩
    cases k with
    | true =>
      rw [if_pos rfl] at w3 ⊢
      refine ⟨_, ?_, ⟨B3, θ3, ρ2, F3, wpS.loop w3⟩⟩
      rintro σ' H' ⟨B', θ', ρ', E', F', w'⟩
      exact ⟨m, Nat.lt_succ_self _, B', θ', ρ', F', w'⟩
    | false =>
      rw [if_neg Bool.false_ne_true] at w3 ⊢
      exact wpS_now F3 w3
theorem Frm.setOwn {cl : Mo} {B : Bx} {θ : Sto} {ρ : List Sl} {σ : St} {H : Hp} (F : Frm cl B θ ρ σ H) (i : Nat) {p : Addr} (hp : H p = none) {xs : List D} {vs : List V} (r : RepL B H xs vs) :
    ExtS B { B with os := p :: B.os } H (upd H p (.lst vs)) ∧ Frm cl { B with os := p :: B.os } θ (ρ.set i (.own xs)) (σ.set i (some (.ref p))) (upd H p (.lst vs)) := by
  have E0 := ext_new F.good hp (.lst vs)
  have G0 := good_new F.good hp (.lst vs)
  have ok := F.good.okNone hp
  have E : ExtS B { B with os := p :: B.os } H (upd H p (.lst vs)) := ⟨E0.n, E0.m, E0.fr, E0.keep, E0.sm, fun a h => by
    rcases List.mem_cons.mp h with rfl | h
    · exact .inr hp
    · exact .inl h, rfl, rfl⟩
  refine ⟨E, ?_⟩
  have E1 : ExtS B { B with os := p :: B.os } H (upd H p (.lst vs)) := E
  have G : Good cl { B with os := p :: B.os } θ (upd H p (.lst vs)) := ⟨G0.len, G0.inj, fun j c e => (F.good.cel j c e).ext E fun u q => by rw [upd_ne (ne_of_none q hp)]; exact q, fun j hj => ⟨(G0.cF j hj).1, fun z => by
      rcases List.mem_cons.mp z with z | z
      · exact ok.1 j hj z
      · exact (G0.cF j hj).2 z⟩, G0.Fs, fun a z => by
      rcases List.mem_cons.mp z with rfl | z
      · rw [upd_same]; simp
      · exact G0.oS a z, fun a z => by
      rcases List.mem_cons.mp z with rfl | z
      · exact ok.2.1
      · exact G0.oF a z, G0.kc⟩
  have oth : ∀ (j : Nat) (s : Sl), (ρ.set i (Sl.own xs))[j]? = some s → (j = i ∧ s = .own xs ∧ j < σ.length) ∨ (j ≠ i ∧ ρ[j]? = some s) := fun j s e => by
    by_cases q : j = i
    · subst q
      have hl : j < ρ.length := by
        have := (List.getElem?_eq_some_iff.mp e).1
        simpa using this
      rw [List.getElem?_set_self hl] at e
      cases e
      exact .inl ⟨rfl, rfl, by rw [← F.len]; exact hl⟩
    · rw [List.getElem?_set_ne (Ne.symm q)] at e
      exact .inr ⟨q, e⟩
  have old : ∀ j ys, ρ[j]? = some (Sl.own ys) → ∀ a, σ[j]? = some (some (V.ref a)) → a ≠ p := fun j ys h a e z => by
    obtain ⟨a', us, q1, q2, q3, q4⟩ := F.own j ys h
    rw [e] at q1
    cases q1
    rw [z, hp] at q3
    cases q3
  refine ⟨G, by simp [F.len], fun j d h => ?_, fun j ys h => ?_, fun j k ys zs a hne h1 h2 h3 => ?_⟩
  · rcases oth j _ h with ⟨_, z, _⟩ | ⟨q, z⟩
    · cases z
    · rw [List.getElem?_set_ne (Ne.symm q)]
      obtain ⟨v, q1, q2⟩ := F.val j d z
      exact ⟨v, q1, q2.ext E⟩
  · rcases oth j _ h with ⟨rfl, z, hl⟩ | ⟨q, z⟩
    · cases z
      exact ⟨p, vs, by rw [List.getElem?_set_self hl], List.mem_cons_self, upd_same, r.ext E⟩
    · rw [List.getElem?_set_ne (Ne.symm q)]
      obtain ⟨a, us, q1, q2, q3, q4⟩ := F.own j ys z
      exact ⟨a, us, q1, List.mem_cons_of_mem _ q2, by rw [upd_ne (ne_of_none q3 hp)]; exact q3, q4.ext E⟩
  · rcases oth j _ h1 with ⟨rfl, z1, hl⟩ | ⟨q1, z1⟩
    · rcases oth k _ h2 with ⟨rfl, z2, _⟩ | ⟨q2, z2⟩
      · exact absurd rfl hne
      · rw [List.getElem?_set_self hl] at h3
        cases h3
        rw [List.getElem?_set_ne (Ne.symm q2)]
        exact fun z => old k zs z2 _ z rfl
    · rw [List.getElem?_set_ne (Ne.symm q1)] at h3
      rcases oth k _ h2 with ⟨rfl, z2, hl⟩ | ⟨q2, z2⟩
      · rw [List.getElem?_set_self hl]
        intro z
        cases z
        exact old j ys z1 _ h3 rfl
      · rw [List.getElem?_set_ne (Ne.symm q2)]
        exact F.ne j k ys zs a hne z1 z2 h3
def mSetOwn (i : Nat) (f : AM) : SM := fun ρ θ => (f ρ θ).bind fun xs θ => if xs.length ≤ BIG then .ok (.nx, ρ.set i (.own xs)) θ else .bad
theorem stepSA {σ : St} {H : Hp} {B : Bx} {θ : Sto} {ρ : List Sl} {f : AM} {k : List D → Sto → R (Fl × List Sl)} {Dn : Ends} (F : Frm X.cl B θ ρ σ H) (h : wpS X σ B H ((f ρ θ).bind k) Dn) :
    tMA X f σ H (fun v H1 => ∃ B1 θ1 d, ExtE B B1 H H1 ∧ Frm X.cl B1 θ1 ρ σ H1 ∧ RepL B1 H1 d v ∧ wpS X σ B1 H1 (k d θ1) Dn) :=
  ⟨B, θ, ρ, F, (wpS.bind (Rel := RepL) h).mono fun v H1 ⟨B1, θ1, d, E, G, r, w⟩ => ⟨B1, θ1, d, E, F.ext E G, r, w⟩⟩
theorem ms_setOwn (i : Nat) {x : Str} {es : List Expr} {f : AM} {pos pos' lpos : Pos} (hN : X.N.Nodup) (he : MA X es f) (hi : X.N[i]? = some x := by rfl) (hx : Loc X.env.scope x := by first | exact Or.inl rfl | exact Or.inr rfl)
    (hs : swapsWith (.List es lpos) (some (.Name x pos')) pos.line X.env = pure false := by rfl) (hf : X.fn x = true ∨ X.env.scope.names.lookup x = some .local := by first | exact .inl rfl | exact .inr rfl) : MS X (.Assign [.Name x pos'] (.List es lpos) pos) (mSetOwn i f) :=
  PS.imp (ps_set hN hi hx (pe_lst he) hs hf) fun D σ H h => by
  obtain ⟨B, θ, ρ, F, w⟩ := h
  refine tMA_mono (stepSA F w) ?_
  rintro vs H1 ⟨B1, θ1, xs, E1, F1, rd, w1⟩
  split at w1
  · rename_i hz
    refine ⟨by rw [rd.len]; exact big_size hz, fun p hp => ?_⟩
    obtain ⟨E2, F2⟩ := F1.setOwn i hp rd
    exact w1 _ _ _ E2 F2
  · exact w1.elim
theorem Frm.updOwn {cl : Mo} {B : Bx} {θ : Sto} {ρ : List Sl} {σ : St} {H : Hp} (F : Frm cl B θ ρ σ H) {i : Nat} {xs ys : List D} {us : List V} {a : Addr} (h : ρ[i]? = some (Sl.own xs)) (ha : σ[i]? = some (some (.ref a))) (r : RepL B H ys us) :
    ExtS B B H (upd H a (.lst us)) ∧ Frm cl B θ (ρ.set i (.own ys)) σ (upd H a (.lst us)) := by
  obtain ⟨a', vs, q1, q2, q3, q4⟩ := F.own i xs h
  rw [ha] at q1
  cases q1
  have hc : ∀ j, j < B.n → B.m j ≠ a := fun j hj z => (F.good.cF j hj).2 (by rw [z]; exact q2)
  have E : ExtS B B H (upd H a (.lst us)) := ⟨Nat.le_refl _, fun _ _ => rfl, fun i h h' => absurd h' (Nat.not_lt.mpr h), fun b o e _ hb => by rw [upd_ne (fun z => hb (by rw [z]; exact q2))]; exact e, fun b e => by
    by_cases q : b = a
    · rw [q, upd_same]; simp
    · rw [upd_ne q]; exact e, fun _ h => .inl h, rfl, rfl⟩
  have hl : i < ρ.length := (List.getElem?_eq_some_iff.mp h).1
  have oth : ∀ (j : Nat) (s : Sl), (ρ.set i (Sl.own ys))[j]? = some s → (j = i ∧ s = .own ys) ∨ (j ≠ i ∧ ρ[j]? = some s) := fun j s e => by
    by_cases q : j = i
    · subst q
      rw [List.getElem?_set_self hl] at e
      cases e
      exact .inl ⟨rfl, rfl⟩
    · rw [List.getElem?_set_ne (Ne.symm q)] at e
      exact .inr ⟨q, e⟩
  refine ⟨E, ⟨⟨F.good.len, F.good.inj, fun j c e => (F.good.cel j c e).ext E fun u q => by
      have hj : j < B.n := by rw [← F.good.len]; exact (List.getElem?_eq_some_iff.mp e).1
      rw [upd_ne (hc j hj)]; exact q, F.good.cF, fun b z => E.sm b (F.good.Fs b z), fun b z => E.sm b (F.good.oS b z), F.good.oF, F.good.kc⟩, by simp [F.len], fun j d e => ?_, fun j zs e => ?_, fun j k zs ws b hne h1 h2 h3 => ?_⟩⟩
  · rcases oth j _ e with ⟨_, z⟩ | ⟨_, z⟩
    · cases z
    · obtain ⟨v, p1, p2⟩ := F.val j d z
      exact ⟨v, p1, p2.ext E⟩
  · rcases oth j _ e with ⟨rfl, z⟩ | ⟨q, z⟩
    · cases z
      exact ⟨a, us, ha, q2, upd_same, r.ext E⟩
    · obtain ⟨b, ws, p1, p2, p3, p4⟩ := F.own j zs z
      refine ⟨b, ws, p1, p2, ?_, p4.ext E⟩
      rw [upd_ne (fun z' => F.ne i j xs zs a (Ne.symm q) h z ha (by rw [← z']; exact p1))]
      exact p3
  · have o1 : ∃ zs', ρ[j]? = some (Sl.own zs') := by
      rcases oth j _ h1 with ⟨rfl, _⟩ | ⟨_, z⟩
      · exact ⟨xs, h⟩
      · exact ⟨_, z⟩
    have o2 : ∃ ws', ρ[k]? = some (Sl.own ws') := by
      rcases oth k _ h2 with ⟨rfl, _⟩ | ⟨_, z⟩
      · exact ⟨xs, h⟩
      · exact ⟨_, z⟩
    obtain ⟨zs', o1⟩ := o1
    obtain ⟨ws', o2⟩ := o2
    exact F.ne j k zs' ws' b hne o1 o2 h3
def mAppend (i : Nat) (f : EM) : SM := fun ρ θ => (f ρ θ).bind fun d θ => match ρ[i]? with
  | some (Sl.own xs) => if xs.length < BIG then .ok (.nx, ρ.set i (.own (xs ++ [d]))) θ else .bad
  | _ => .bad
theorem ms_append (i : Nat) {x : Str} {e : Expr} {f : EM} {p apos pos pos' : Pos} (he : ME X e f) (hN : X.N[i]? = some x := by rfl) (hv : Vis X.env.scope x := by first | exact Or.inl rfl | exact Or.inr (Or.inl rfl) | exact Or.inr (Or.inr rfl))
    (hd : (x == ("__debug__" : Str)) = false := by decide) (hcd : (x == ("__classdict__" : Str)) = false := by decide)
    (hpe : ∀ {to : TE}, PE X (.Name x p) to → PE X (.Call (.Attribute (.Name x p) "append" apos) [e] [] pos) (tBM X.K "list" rAppend to (tCons (tM X f) tNil)))
    (hs : swapsWith (.Call (.Attribute (.Name x p) "append" apos) [e] [] pos) none pos'.line X.env = pure false := by rfl) : MS X (.Expr (.Call (.Attribute (.Name x p) "append" apos) [e] [] pos) pos') (mAppend i f) :=
  PS.imp (ps_expr (hpe (pe_var hN hv hd hcd)) hs) fun D σ H h => by
  obtain ⟨B, θ, ρ, F, w⟩ := h
  have own : ∃ xs, ρ[i]? = some (Sl.own xs) := by
    unfold mAppend at w
    cases q : f ρ θ with
    | bad => rw [q] at w; exact w.elim
    | ex c θ' => rw [q] at w; exact False.elim w
    | ok d θ' =>
      rw [q] at w
      simp only [R.bind_ok] at w
      split at w
      · rename_i xs e; exact ⟨xs, e⟩
      · exact w.elim
  obtain ⟨xs, hx⟩ := own
  obtain ⟨a, vs, q1, q2, q3, q4⟩ := F.own i xs hx
  refine ⟨.ref a, q1, .inl ⟨rfl, vs, SqL.of q3⟩, ?_⟩
  refine tM_mono (stepS F w) ?_
  rintro y H1 ⟨B1, θ1, d, E1, F1, rd, w1⟩
  rw [hx] at w1
  simp only at w1
  split at w1
  · rename_i hz
    obtain ⟨a', us, p1, p2, p3, p4⟩ := F1.own i xs hx
    rw [q1] at p1
    cases p1
    refine ⟨a, us, y, rfl, rfl, p3, by rw [p4.len]; exact Nat.lt_of_lt_of_le hz (big_size (Nat.le_refl _)), ?_⟩
    obtain ⟨E2, F2⟩ := F1.updOwn hx q1 (p4.app (show RepL B1 H1 [d] [y] from ⟨y, [], rfl, rd, rfl⟩))
    exact w1 _ _ _ E2 F2
  · exact w1.elim
def mFreeze (i : Nat) (f : SM) : SM := fun ρ θ => match ρ[i]? with
  | some (Sl.own xs) => f (ρ.set i (.val (.lst xs))) θ
  | _ => f ρ θ
theorem tMS_freeze {i : Nat} {f : SM} {D : Ends} {σ : St} {H : Hp} (h : tMS X (mFreeze i f) D σ H) : tMS X f D σ H := by
  obtain ⟨B, θ, ρ, F, w⟩ := h
  unfold mFreeze at w
  split at w
  · rename_i xs hx
    obtain ⟨a, vs, q1, q2, q3, q4⟩ := F.own i xs hx
    let B' : Bx := { B with os := B.os.filter fun b => decide (b ≠ a) }
    have sub : ∀ b, b ∈ B'.os → b ∈ B.os ∧ b ≠ a := fun b hb => by
      have := List.mem_filter.mp hb
      exact ⟨this.1, of_decide_eq_true this.2⟩
    have E : ExtS B B' H H := ⟨Nat.le_refl _, fun _ _ => rfl, fun i h h' => absurd h' (Nat.not_lt.mpr h), fun _ _ e _ _ => e, fun _ e => e, fun b hb => .inl (sub b hb).1, rfl, rfl⟩
    have hc : ∀ j, j < B.n → B.m j ≠ a := fun j hj z => (F.good.cF j hj).2 (by rw [z]; exact q2)
    have G : Good X.cl B' θ H := ⟨F.good.len, F.good.inj, fun j c e => (F.good.cel j c e).ext E fun _ q => q, fun j hj => ⟨(F.good.cF j hj).1, fun z => (F.good.cF j hj).2 (sub _ z).1⟩, F.good.Fs, fun b z => F.good.oS b (sub b z).1, fun b z => F.good.oF b (sub b z).1, F.good.kc⟩
    have rv : RepV B' H (.lst xs) (.ref a) := ⟨a, vs, rfl, q3, ⟨hc, F.good.oF a q2, fun z => (sub a z).2 rfl⟩, q4.ext E⟩
    have hl : i < ρ.length := (List.getElem?_eq_some_iff.mp hx).1
    have oth : ∀ (j : Nat) (s : Sl), (ρ.set i (Sl.val (.lst xs)))[j]? = some s → (j = i ∧ s = .val (.lst xs)) ∨ (j ≠ i ∧ ρ[j]? = some s) := fun j s e => by
      by_cases q : j = i
      · subst q
        rw [List.getElem?_set_self hl] at e
        cases e
        exact .inl ⟨rfl, rfl⟩
      · rw [List.getElem?_set_ne (Ne.symm q)] at e
        exact .inr ⟨q, e⟩
    refine ⟨B', θ, _, ⟨G, by simp [F.len], fun j d e => ?_, fun j ys e => ?_, fun j k ys zs b hne h1 h2 h3 => ?_⟩, wpS.trans w E⟩
    · rcases oth j _ e with ⟨rfl, z⟩ | ⟨_, z⟩
      · cases z; exact ⟨_, q1, rv⟩
      · obtain ⟨v, p1, p2⟩ := F.val j d z
        exact ⟨v, p1, p2.ext E⟩
    · rcases oth j _ e with ⟨_, z⟩ | ⟨q, z⟩
      · cases z
      · obtain ⟨b, ws, p1, p2, p3, p4⟩ := F.own j ys z
        refine ⟨b, ws, p1, List.mem_filter.mpr ⟨p2, decide_eq_true fun z' => ?_⟩, p3, p4.ext E⟩
        subst z'
        exact F.ne i j xs ys b (Ne.symm q) hx z q1 p1
    · rcases oth j _ h1 with ⟨_, z⟩ | ⟨_, z1⟩
      · cases z
      · rcases oth k _ h2 with ⟨_, z⟩ | ⟨_, z2⟩
        · cases z
        · exact F.ne j k ys zs b hne z1 z2 h3
  · exact ⟨B, θ, ρ, F, w⟩
theorem ms_freeze (i : Nat) {st : Stmt} {f : SM} (h : MS X st f) : MS X st (mFreeze i f) := PS.imp h fun _ _ _ q => tMS_freeze q
def startS (n : Nat) (ds : List D) : List Sl := ds.map Sl.val ++ List.replicate (n - ds.length) Sl.no
def mDef (np nn : Nat) (fb : SM) : GM := fun ds θ => if ds.length = np then (fb (startS nn ds) θ).bind fun p θ => match p.1 with
  | .nx => .ok .non θ
  | .rt d => .ok d θ
  | _ => .bad
  else .bad
def spM (X : Mo) (f : GM) : Sp := fun vs H Q E => ∃ B θ ds, B.os = [] ∧ Good X B θ H ∧ RepL B H ds vs ∧ (match f ds θ with
  | .ok d θ' => ∀ B' H' v, ExtE B B' H H' → Good X B' θ' H' → RepV B' H' d v → Q v H'
  | .ex c θ' => False
  | .bad => False)
def MDef (P : Program) (w : World) (K : PySem.W.Frag) (mg : Str → Option Value) (base : Heap) (k : Nat) (x : Str) (f : GM) : Prop := ∃ ps, Def P w K mg base k x ps (spM ⟨clOf mg, K⟩ f)
theorem MDef.mono {P : Program} {w : World} {K : PySem.W.Frag} {mg : Str → Option Value} {base : Heap} {x : Str} {f : GM} {j k : Nat} (D : MDef P w K mg base j x f) (h : j ≤ k) : MDef P w K mg base k x f := let ⟨ps, q⟩ := D; ⟨ps, q.mono h⟩
theorem start_frm {cl : Mo} {B : Bx} {θ : Sto} {H : Hp} {ds : List D} {vs : List V} {N : List Str} {nn : Nat} (G : Good cl B θ H) (r : RepL B H ds vs) (hn : N.length = nn) : Frm cl B θ (startS nn ds) (start N vs) H := by
  subst hn
  have hl := r.len
  have key : ∀ (i : Nat) (s : Sl), (startS N.length ds)[i]? = some s → s = .no ∨ ∃ d, s = .val d ∧ ∃ v, (start N vs)[i]? = some (some v) ∧ RepV B H d v := fun i s e => by
    unfold startS at e
    by_cases q : i < ds.length
    · rw [List.getElem?_append_left (by simpa using q), List.getElem?_map, List.getElem?_eq_getElem q] at e
      cases e
      obtain ⟨v, h1, h2⟩ := r.get (List.getElem?_eq_getElem q)
      refine .inr ⟨_, rfl, v, ?_, h2⟩
      unfold start
      rw [List.getElem?_append_left (by simpa [hl] using q), List.getElem?_map, h1]
      rfl
    · rw [List.getElem?_append_right (by simpa using q)] at e
      exact .inl (List.eq_of_mem_replicate (List.mem_of_getElem? e))
  refine ⟨G, by simp [startS, start, hl], fun i d e => ?_, fun i xs e => ?_, fun i j xs ys a _ e _ => ?_⟩
  · rcases key i _ e with z | ⟨d', z, v', h1, h2⟩
    · cases z
    · cases z; exact ⟨v', h1, h2⟩
  · rcases key i _ e with z | ⟨d', z, _⟩ <;> cases z
  · rcases key i _ e with z | ⟨d', z, _⟩ <;> cases z
theorem mfn {P : Program} {w : World} {K : PySem.W.Frag} {mg : Str → Option Value} {base : Heap} {x qual : Str} {st : Stmt} {N ps : List Str} {k : Nat} {fb : SM} {f : Addr} {fd : FuncData} (F : Fun K x qual st f fd) (S : FnScope N ps (defScope st)) (np nn : Nat) (hp : ps.length = np) (hn : N.length = nn)
    (hbody : ∀ (cdv : Value) (A : Around) (outer : List Env) (s : Shared) (H : Hp) (E : XK), Room k (A.deeper (envOfC qual (defScope st) s.heap.objs.size f cdv)) → MSs (cxOf CX0 P w K mg base N qual (defScope st) f cdv A outer s H E).nox (defBody st) fb) :
    FnOk P w K mg base CX0 (k + 1) f fd ps (spM ⟨clOf mg, K⟩ (mDef np nn fb)) := by
  refine F.ok S ?_ ?_
  · rintro vs H Q E ⟨B, θ, ds, _, _, r, q⟩
    unfold mDef at q
    split at q
    · rename_i h
      split at h
      · rename_i hl; rw [r.len, hl, hp]
      · cases h
    · exact q.elim
    · exact q.elim
  · intro cdv A outer s H vs Q E hr h
    obtain ⟨B, θ, ds, hos, G, r, q⟩ := h
    refine ⟨tMS (cxOf CX0 P w K mg base N qual (defScope st) f cdv A outer s H E).nox fb, hbody cdv A outer s H E hr, B, θ, startS nn ds, start_frm G r hn, ?_⟩
    unfold mDef at q
    by_cases hl : ds.length = np
    · rw [if_pos hl] at q
      cases e : fb (startS nn ds) θ with
      | bad => rw [e] at q; exact q.elim
      | ex c θ' => rw [e] at q; exact q.elim
      | ok p θ' =>
        rw [e] at q
        obtain ⟨fl, ρ'⟩ := p
        intro B' H' σ' E' F'
        have hos' : ∀ a, a ∈ B.os → False := fun a ha => by rw [hos] at ha; cases ha
        let B2 : Bx := { B' with os := [] }
        have E2 : ExtE B B2 H H' := ⟨⟨E'.n, E'.m, E'.fr, E'.keep, E'.sm, fun a ha => (nomatch ha), E'.F, E'.ks⟩, hos.symm, fun a o ha => (hos' a ha).elim⟩
        have E3 : ExtS B' B2 H' H' := ⟨Nat.le_refl _, fun _ _ => rfl, fun i h h' => absurd h' (Nat.not_lt.mpr h), fun _ _ e _ _ => e, fun _ e => e, fun b hb => (nomatch hb), rfl, rfl⟩
        have G2 : Good ⟨clOf mg, K⟩ B2 θ' H' := ⟨F'.good.len, F'.good.inj, fun j c e => (F'.good.cel j c e).ext E3 fun _ q => q, fun j hj => ⟨(F'.good.cF j hj).1, fun z => nomatch z⟩, F'.good.Fs, fun b z => (nomatch z), fun b z => (nomatch z), F'.good.kc⟩
        cases fl with
        | nx => exact q B2 H' .non E2 G2 rfl
        | rt d => exact fun v rv => q B2 H' v E2 G2 (rv.ext E3)
        | bk => exact q.elim
        | ct => exact q.elim
    · rw [if_neg hl] at q
      exact q.elim
theorem mdef {P : Program} {w : World} {K : PySem.W.Frag} {mg : Str → Option Value} {base : Heap} {x : Str} {st : Stmt} {N ps : List Str} {k : Nat} {fb : SM} (D0 : Def0 K mg x st ps) (S : FnScope N ps (defScope st)) (np nn : Nat) (hp : ps.length = np) (hn : N.length = nn)
    (hbody : ∀ (f : Addr) (cdv : Value) (A : Around) (outer : List Env) (s : Shared) (H : Hp) (E : XK), Room k (A.deeper (envOfC x (defScope st) s.heap.objs.size f cdv)) → MSs (cxOf CX0 P w K mg base N x (defScope st) f cdv A outer s H E).nox (defBody st) fb) : MDef P w K mg base (k + 1) x (mDef np nn fb) := by
  obtain ⟨f, fd, F, b, m⟩ := D0
  exact ⟨ps, f, fd, mfn F S np nn hp hn (hbody f), b, F.kp, m⟩
def Bx.inC (B : Bx) : Bx := { B with F := fun a => B.F a ∨ a ∈ B.os, os := [] }
theorem inC_ok {B : Bx} {a : Addr} : B.inC.ok a ↔ B.ok a := by
  constructor
  · rintro ⟨h1, h2, h3⟩
    exact ⟨h1, fun z => h2 (.inl z), fun z => h2 (.inr z)⟩
  · rintro ⟨h1, h2, h3⟩
    exact ⟨h1, fun z => z.elim h2 h3, fun z => nomatch z⟩
mutual
theorem RepV.same {B B' : Bx} {H : Hp} (hn : B'.n = B.n) (hm : B'.m = B.m) (hk : B'.ks = B.ks) (ho : ∀ a, B.ok a → B'.ok a) : ∀ {d : D} {v : V}, RepV B H d v → RepV B' H d v
  | .non, _, h => h
  | .bl _, _, h => h
  | .int _, _, h => h
  | .str _, _, h => h
  | .ty _, _, h => h
  | .scr _, _, h => by
    obtain ⟨a, e, h⟩ := h
    refine ⟨a, e, ?_⟩
    rcases h with ⟨o, h, k⟩ | h
    · exact .inl ⟨o, h, ho a k⟩
    · exact .inr (by rw [hk]; exact h)
  | .tup _, _, h => by obtain ⟨a, vs, e, h, k, l⟩ := h; exact ⟨a, vs, e, h, ho a k, RepL.same hn hm hk ho l⟩
  | .lst _, _, h => by obtain ⟨a, vs, e, h, k, l⟩ := h; exact ⟨a, vs, e, h, ho a k, RepL.same hn hm hk ho l⟩
  | .ref l, _, h => ⟨by rw [hn]; exact h.1, by rw [hm]; exact h.2⟩
theorem RepL.same {B B' : Bx} {H : Hp} (hn : B'.n = B.n) (hm : B'.m = B.m) (hk : B'.ks = B.ks) (ho : ∀ a, B.ok a → B'.ok a) : ∀ {ds : List D} {vs : List V}, RepL B H ds vs → RepL B' H ds vs
  | [], _, h => h
  | _ :: _, _, h => by obtain ⟨v, r, e, hv, hr⟩ := h; exact ⟨v, r, e, RepV.same hn hm hk ho hv, RepL.same hn hm hk ho hr⟩
end
theorem RepKV.same {κ : Type} {B B' : Bx} {H : Hp} (hn : B'.n = B.n) (hm : B'.m = B.m) (hk : B'.ks = B.ks) (ho : ∀ a, B.ok a → B'.ok a) : ∀ {ks : List (κ × D)} {vs : List (κ × V)}, RepKV B H ks vs → RepKV B' H ks vs
  | _, _, .nil => .nil
  | _, _, .cons h t => .cons ⟨h.1, RepV.same hn hm hk ho h.2⟩ (RepKV.same hn hm hk ho t)
theorem CellOk.same {cl : Mo} {B B' : Bx} {H : Hp} {a : Addr} {c : Cell} (hn : B'.n = B.n) (hm : B'.m = B.m) (hk : B'.ks = B.ks) (ho : ∀ a, B.ok a → B'.ok a) (k : CellOk cl B H a c) : CellOk cl B' H a c := by
  cases c with
  | lst xs => obtain ⟨vs, e, r⟩ := k; exact ⟨vs, e, r.same hn hm hk ho⟩
  | dK kvs => obtain ⟨vs, e, r⟩ := k; exact ⟨vs, e, r.same hn hm hk ho⟩
  | dT kvs => obtain ⟨vs, e, r⟩ := k; exact ⟨vs, e, r.same hn hm hk ho⟩
  | ins C fs => obtain ⟨dx, vs, e, r⟩ := k; exact ⟨dx, vs, e, r.same hn hm hk ho⟩
theorem good_inC {cl : Mo} {B : Bx} {θ : Sto} {H : Hp} (G : Good cl B θ H) : Good cl B.inC θ H :=
  ⟨G.len, G.inj, fun i c e => CellOk.same (B := B) (B' := B.inC) rfl rfl rfl (fun a => inC_ok.mpr) (G.cel i c e), fun i hi => ⟨fun z => z.elim (G.cF i hi).1 (G.cF i hi).2, fun z => nomatch z⟩, fun a z => z.elim (G.Fs a) (G.oS a), fun a z => (nomatch z), fun a z => (nomatch z), G.kc⟩
theorem out_C {cl : Mo} {B B' : Bx} {θ θ' : Sto} {H H' : Hp} (G : Good cl B θ H) (E : ExtE B.inC B' H H') (G' : Good cl B' θ' H') :
    ExtE B { B' with F := B.F, os := B.os } H H' ∧ Good cl { B' with F := B.F, os := B.os } θ' H' ∧ ∀ d v, RepV B' H' d v → RepV { B' with F := B.F, os := B.os } H' d v := by
  have hF : B'.F = fun a => B.F a ∨ a ∈ B.os := E.F
  have ho : ∀ a, B'.ok a → Bx.ok { B' with F := B.F, os := B.os } a := fun a ⟨h1, h2, h3⟩ => by
    rw [hF] at h2
    exact ⟨h1, fun z => h2 (.inl z), fun z => h2 (.inr z)⟩
  have keep : ∀ a o, H a = some o → (∀ i, i < B.n → B.m i ≠ a) → H' a = some o := fun a o h k => E.keep a o h k (fun z => nomatch z)
  refine ⟨⟨⟨E.n, E.m, E.fr, fun a o h k _ => keep a o h k, E.sm, fun a h => .inl h, rfl, E.ks⟩, rfl, fun a o _ k h => keep a o h k⟩, ⟨G'.len, G'.inj, fun i c e => CellOk.same (B := B') (B' := { B' with F := B.F, os := B.os }) rfl rfl rfl ho (G'.cel i c e), fun i hi => ?_, fun a z => E.sm a (G.Fs a z), fun a z => E.sm a (G.oS a z), G.oF, G'.kc⟩, fun d v r => RepV.same (B := B') (B' := { B' with F := B.F, os := B.os }) rfl rfl rfl ho r⟩
  have := (G'.cF i hi).1
  rw [hF] at this
  exact ⟨fun z => this (.inl z), fun z => this (.inr z)⟩
theorem call_sp {f : GM} {σ : St} {B : Bx} {θ : Sto} {H : Hp} {ds : List D} {vs : List V} {Q : VK} {E : XK} (G : Good X.cl B θ H) (r : RepL B H ds vs) (w : wpR X σ RepV B H (f ds θ) Q) : spM X.cl f vs H Q E := by
  refine ⟨B.inC, θ, ds, rfl, good_inC G, RepL.same (B := B) (B' := B.inC) rfl rfl rfl (fun a => inC_ok.mpr) r, ?_⟩
  cases e : f ds θ with
  | bad => rw [e] at w; exact w
  | ex c θ' => rw [e] at w; exact w
  | ok d θ' =>
    rw [e] at w
    intro B' H' v E' G' rv
    obtain ⟨h1, h2, h3⟩ := out_C G E' G'
    exact w _ H' v h1 h2 (h3 d v rv)
theorem me_call {k j : Nat} {x : Str} {f : GM} {p pos : Pos} {e : Expr} {es : List Expr} {fs : AM} (D0 : MDef X.prog X.w X.K X.mg X.base k x f) (hr : Room j X.A) (hj : k ≤ j) (ha : MA X (e :: es) fs) (hg : Gl X x := by rfl) (hdb : (x == ("__debug__" : Str)) = false := by decide)
    (he : starEach (e :: es) X.env = (false, eval e X.env) :: starEach es X.env := by rfl) (hpl : (backTo pos (starEach es X.env)).any (·.1) = false := by rfl) : ME X (.Call (.Name x p) (e :: es) [] pos) (mCB f fs) := by
  obtain ⟨ps, D0⟩ := D0
  refine PE.imp (pe_callD D0 hr hj ha hg hdb he hpl) fun σ H Q h => ?_
  obtain ⟨B, θ, ρ, F, w⟩ := h
  refine tMA_mono (stepA F w) ?_
  rintro vs H1 ⟨B1, θ1, ds, E1, F1, rd, w1⟩
  rw [List.append_nil]
  exact call_sp F1.good rd w1
end
end L2.MM
set_option Elab.async false
set_option linter.all false
set_option maxRecDepth 100000
set_option maxHeartbeats 4000000
namespace L2.MM
open PySem PySem.Spec PyProof.Rows PySem.SeqAt
noncomputable section
def spLaw (K : PySem.W.Frag) : Sp := fun vs H Q _ => ∃ (a : Addr) (ns : List Int), vs = [.ref a] ∧ Only H ∧ SqL K H a (ns.map V.int) ∧ ns.length ≤ 63 ∧ ∀ H', Q (.bl true) H'
theorem law_imp {P : Program} {w : World} {K : PySem.W.Frag} {mg : Str → Option Value} {base : Heap} {k : Nat} {f : Addr} {fd : FuncData} {ps : List Str} {g : GM} (h : ∀ ns : List Int, ns.length ≤ 63 → ∃ θ', g [.scr ns] [] = .ok (.bl true) θ')
    (F : FnOk P w K mg base CX0 k f fd ps (spM ⟨clOf mg, K⟩ g)) : FnOk P w K mg base CX0 k f fd ps (spLaw K) := by
  refine F.imp ?_
  rintro vs H Q E ⟨a, ns, rfl, hO, hS, hl, q⟩
  obtain ⟨θ', e⟩ := h ns hl
  refine ⟨⟨0, fun _ => 0, fun _ => False, [], KL K⟩, [], [.scr ns], rfl, ⟨rfl, fun i j hi => absurd hi (Nat.not_lt_zero _), fun i c h => by simp at h, fun i hi => absurd hi (Nat.not_lt_zero _), fun a h => h.elim, fun a h => (nomatch h), fun a h => (nomatch h), fun a ns h => h⟩, ?_, ?_⟩
  · refine ⟨.ref a, [], rfl, ⟨a, rfl, ?_⟩, rfl⟩
    rcases hS with (h1 | ⟨o, h1⟩) | h1
    · rcases hO a with z | ⟨o, xs, z⟩
      · rw [z] at h1; cases h1
      · rw [z] at h1; cases h1
    · exact .inl ⟨o, h1, fun i hi => absurd hi (Nat.not_lt_zero _), fun z => z, fun z => (nomatch z)⟩
    · exact .inr h1
  · rw [e]
    intro B' H' v _ _ rv
    cases (show v = V.bl true from rv)
    exact q H'
end
end L2.MM
set_option Elab.async false
set_option linter.all false
set_option maxRecDepth 100000
set_option maxHeartbeats 4000000
namespace L2.MM
open PySem PySem.Spec PyProof.Rows PySem.SeqAt
noncomputable section
section
variable {i j k : Nat} {ρ : List Sl} {θ : Sto} {f g h : EM} {fs : AM} {t u : TMr}
@[simp] theorem x_var : mVar i ρ θ = match ρ[i]? with | some (Sl.val d) => .ok d θ | _ => .bad := nr rfl
@[simp] theorem x_c {d : D} : mC d ρ θ = .ok d θ := nr rfl
@[simp] theorem x_op {o : OM} : mOp o f g ρ θ = (f ρ θ).bind fun x θ => (g ρ θ).bind fun y θ => o x y θ := nr rfl
@[simp] theorem x_test : mTest f ρ θ = (f ρ θ).bind fun x θ => match x with | .bl k => .ok k θ | _ => .bad := nr rfl
@[simp] theorem x_tru : mTru f ρ θ = (f ρ θ).bind fun x θ => match truD θ x with | some k => .ok k θ | none => .bad := nr rfl
@[simp] theorem x_and : mAnd t u ρ θ = (t ρ θ).bind fun k θ => if k = true then u ρ θ else .ok false θ := nr rfl
@[simp] theorem x_or : mOr t u ρ θ = (t ρ θ).bind fun k θ => if k = true then .ok true θ else u ρ θ := nr rfl
@[simp] theorem x_not : mNot t ρ θ = (t ρ θ).bind fun k θ => .ok (!k) θ := nr rfl
def andK (g : Sto → R D) : D → Sto → R D
  | .bl true, θ => g θ
  | .bl false, θ => .ok (.bl false) θ
  | _, _ => .bad
def orK (g : Sto → R D) : D → Sto → R D
  | .bl true, θ => .ok (.bl true) θ
  | .bl false, θ => g θ
  | _, _ => .bad
@[simp] theorem andK_bl {g : Sto → R D} {k : Bool} : andK g (.bl k) θ = if k = true then g θ else .ok (.bl false) θ := by cases k <;> rfl
@[simp] theorem orK_bl {g : Sto → R D} {k : Bool} : orK g (.bl k) θ = if k = true then .ok (.bl true) θ else g θ := by cases k <;> rfl
@[simp] theorem x_andV : mAndV f g ρ θ = (f ρ θ).bind (andK (g ρ)) := by
  show (f ρ θ).bind _ = _
  congr 1
  funext x θ
  cases x <;> first | rfl | (rename_i b; cases b <;> rfl)
@[simp] theorem x_orV : mOrV f g ρ θ = (f ρ θ).bind (orK (g ρ)) := by
  show (f ρ θ).bind _ = _
  congr 1
  funext x θ
  cases x <;> first | rfl | (rename_i b; cases b <;> rfl)
@[simp] theorem ite_and {k m : Bool} : (if k = true then R.ok (D.bl m) θ else R.ok (D.bl false) θ) = R.ok (D.bl (k && m)) θ := by cases k <;> rfl
@[simp] theorem ite_or {k m : Bool} : (if k = true then R.ok (D.bl true) θ else R.ok (D.bl m) θ) = R.ok (D.bl (k || m)) θ := by cases k <;> rfl
@[simp] theorem ite_andT {k m : Bool} : (if k = true then R.ok m θ else R.ok false θ) = R.ok (k && m) θ := by cases k <;> rfl
@[simp] theorem ite_orT {k m : Bool} : (if k = true then R.ok true θ else R.ok m θ) = R.ok (k || m) θ := by cases k <;> rfl
@[simp] theorem ite_andP {p : Prop} [Decidable p] {m : Bool} : (if p then R.ok (D.bl m) θ else R.ok (D.bl false) θ) = R.ok (D.bl (decide p && m)) θ := by by_cases h : p <;> simp [h]
@[simp] theorem ite_orP {p : Prop} [Decidable p] {m : Bool} : (if p then R.ok (D.bl true) θ else R.ok (D.bl m) θ) = R.ok (D.bl (decide p || m)) θ := by by_cases h : p <;> simp [h]
@[simp] theorem ite_andTP {p : Prop} [Decidable p] {m : Bool} : (if p then R.ok m θ else R.ok false θ) = R.ok (decide p && m) θ := by by_cases h : p <;> simp [h]
@[simp] theorem ite_orTP {p : Prop} [Decidable p] {m : Bool} : (if p then R.ok true θ else R.ok m θ) = R.ok (decide p || m) θ := by by_cases h : p <;> simp [h]
@[simp] theorem x_notV : mNotV f ρ θ = (f ρ θ).bind fun x θ => match truD θ x with | some k => .ok (.bl (!k)) θ | none => .bad := nr rfl
@[simp] theorem x_neg : mNeg f ρ θ = (f ρ θ).bind fun x θ => match x with | .int i => .ok (.int (-i)) θ | _ => .bad := nr rfl
@[simp] theorem x_ite : mIte t f g ρ θ = (t ρ θ).bind fun k θ => if k = true then f ρ θ else g ρ θ := nr rfl
@[simp] theorem x_chain {o o' : OM} : mChain o o' f g h ρ θ = (f ρ θ).bind fun x θ => (g ρ θ).bind fun y θ => (o x y θ).bind (andK fun θ => (h ρ θ).bind fun w θ => o' y w θ) := by
  show (f ρ θ).bind _ = _
  congr 1
  funext x θ
  congr 1
  funext y θ
  congr 1
  funext z θ
  cases z <;> first | rfl | (rename_i b; cases b <;> rfl)
@[simp] theorem x_nil : mNil ρ θ = .ok [] θ := nr rfl
@[simp] theorem x_cons : mCons f fs ρ θ = (f ρ θ).bind fun x θ => (fs ρ θ).bind fun xs θ => .ok (x :: xs) θ := nr rfl
@[simp] theorem x_tup : mTup fs ρ θ = (fs ρ θ).bind fun xs θ => if xs.length ≤ BIG then .ok (.tup xs) θ else .bad := nr rfl
@[simp] theorem x_lst : mLst fs ρ θ = (fs ρ θ).bind fun xs θ => if xs.length ≤ BIG then .ok (.lst xs) θ else .bad := nr rfl
@[simp] theorem x_lstC : mLstC fs ρ θ = (fs ρ θ).bind fun xs θ => if xs.length ≤ BIG then .ok (.ref θ.length) (θ ++ [.lst xs]) else .bad := nr rfl
@[simp] theorem x_CB {o : GM} : mCB o fs ρ θ = (fs ρ θ).bind fun xs θ => o xs θ := nr rfl
@[simp] theorem x_noPart : mNoPart ρ θ = .ok none θ := nr rfl
@[simp] theorem x_part : mPart f ρ θ = (f ρ θ).bind fun x θ => match x with | .int i => .ok (some i) θ | _ => .bad := nr rfl
@[simp] theorem x_sl {lo hi : PM} : mSl f lo hi ρ θ = (f ρ θ).bind fun x θ => (lo ρ θ).bind fun l θ => (hi ρ θ).bind fun h θ => match sliceD θ x l h with
  | some d => .ok d θ
  | none => .bad := nr rfl
@[simp] theorem x_sl3 {lo hi st : PM} : mSl3 f lo hi st ρ θ = (f ρ θ).bind fun x θ => (lo ρ θ).bind fun l θ => (hi ρ θ).bind fun h θ => (st ρ θ).bind fun s θ => match lstOf θ x with
  | some xs => if s ≠ some 0 ∧ (pickL xs l h s).length ≤ BIG then .ok (.lst (pickL xs l h s)) θ else .bad
  | none => .bad := nr rfl
@[simp] theorem x_in : mIn f ρ θ = (f ρ θ).bind fun d θ => match seqOf θ d with | some _ => .ok (.seq d) θ | none => .bad := nr rfl
@[simp] theorem x_rng1 : mRng1 fs ρ θ = (fs ρ θ).bind fun ds θ => match ds with
  | [.int j] => if -1000000 ≤ j ∧ j ≤ 1000000 then .ok (.rng 0 j.toNat) θ else .bad
  | _ => .bad := by
  unfold mRng1; exact nr rfl
@[simp] theorem x_rng2 : mRng2 fs ρ θ = (fs ρ θ).bind fun ds θ => match ds with
  | [.int i, .int j] => if -1000000 ≤ i ∧ i ≤ 1000000 ∧ -1000000 ≤ j ∧ j ≤ 1000000 then .ok (.rng i (j - i).toNat) θ else .bad
  | _ => .bad := by
  unfold mRng2; exact nr rfl
variable {a b : SM} {Fl' : Fl × List Sl}
@[simp] theorem x_skip : mSkip ρ θ = .ok (.nx, ρ) θ := nr rfl
@[simp] theorem x_bad : mBad ρ θ = .bad := nr rfl
@[simp] theorem x_then_nx {ρ' : List Sl} : thenS (.ok (.nx, ρ') θ) a = a ρ' θ := nr rfl
@[simp] theorem x_then_rt {ρ' : List Sl} {d : D} : thenS (.ok (.rt d, ρ') θ) a = .ok (.rt d, ρ') θ := nr rfl
@[simp] theorem x_then_bad : thenS .bad a = .bad := nr rfl
@[simp] theorem x_seq : mSeq a b ρ θ = thenS (a ρ θ) b := nr rfl
@[simp] theorem x_expr : mExpr f ρ θ = (f ρ θ).bind fun _ θ => .ok (.nx, ρ) θ := nr rfl
@[simp] theorem x_ret : mRet f ρ θ = (f ρ θ).bind fun d θ => .ok (.rt d, ρ) θ := nr rfl
@[simp] theorem x_retN : mRetN ρ θ = .ok (.rt .non, ρ) θ := nr rfl
@[simp] theorem x_if : mIf t a b ρ θ = (t ρ θ).bind fun k θ => if k = true then a ρ θ else b ρ θ := nr rfl
@[simp] theorem x_set : mSet i f ρ θ = (f ρ θ).bind fun d θ => .ok (.nx, ρ.set i (.val d)) θ := nr rfl
@[simp] theorem x_setOwn : mSetOwn i fs ρ θ = (fs ρ θ).bind fun xs θ => if xs.length ≤ BIG then .ok (.nx, ρ.set i (.own xs)) θ else .bad := nr rfl
@[simp] theorem x_append : mAppend i f ρ θ = (f ρ θ).bind fun d θ => match ρ[i]? with
  | some (Sl.own xs) => if xs.length < BIG then .ok (.nx, ρ.set i (.own (xs ++ [d]))) θ else .bad
  | _ => .bad := nr rfl
@[simp] theorem x_freeze : mFreeze i a ρ θ = match ρ[i]? with | some (Sl.own xs) => a (ρ.set i (.val (.lst xs))) θ | _ => a ρ θ := nr rfl
@[simp] theorem x_loop_nx {ρ' : List Sl} : loopK a (.nx, ρ') θ = a ρ' θ := nr rfl
@[simp] theorem x_loop_ct {ρ' : List Sl} : loopK a (.ct, ρ') θ = a ρ' θ := nr rfl
@[simp] theorem x_loop_bk {ρ' : List Sl} : loopK a (.bk, ρ') θ = .ok (.nx, ρ') θ := nr rfl
@[simp] theorem x_loop_rt {ρ' : List Sl} {d : D} : loopK a (.rt d, ρ') θ = .ok (.rt d, ρ') θ := nr rfl
@[simp] theorem x_gNm {d : D} : gNm i d ρ = some (ρ.set i (.val d)) := nr rfl
@[simp] theorem x_def {np nn : Nat} {ds : List D} : mDef np nn a ds θ = if ds.length = np then (a (startS nn ds) θ).bind fun p θ => match p.1 with | .nx => .ok .non θ | .rt d => .ok d θ | _ => .bad else .bad := nr rfl
@[simp] theorem x_start {n : Nat} {ds : List D} : startS n ds = ds.map Sl.val ++ List.replicate (n - ds.length) Sl.no := nr rfl
@[simp] theorem x_lstOf_lst {xs : List D} : lstOf θ (.lst xs) = some xs := nr rfl
@[simp] theorem x_seqOf_lst {xs : List D} : seqOf θ (.lst xs) = some xs := nr rfl
@[simp] theorem x_seqOf_tup {xs : List D} : seqOf θ (.tup xs) = some xs := nr rfl
@[simp] theorem x_seqOf_scr {ns : List Int} : seqOf θ (.scr ns) = some (ns.map D.int) := nr rfl
@[simp] theorem x_truD_bl {b : Bool} : truD θ (.bl b) = some b := nr rfl
@[simp] theorem x_truD_int {n : Int} : truD θ (.int n) = some (n != 0) := nr rfl
@[simp] theorem x_truD_lst {xs : List D} : truD θ (.lst xs) = some (!xs.isEmpty) := nr rfl
@[simp] theorem x_truD_tup {xs : List D} : truD θ (.tup xs) = some (!xs.isEmpty) := nr rfl
@[simp] theorem x_truD_scr {ns : List Int} : truD θ (.scr ns) = some (!(ns.map D.int).isEmpty) := nr rfl
@[simp] theorem x_truD_non : truD θ .non = some false := nr rfl
@[simp] theorem x_look_lst {xs : List D} : look θ (.lst xs) = .lst xs := nr rfl
@[simp] theorem x_look_tup {xs : List D} : look θ (.tup xs) = .tup xs := nr rfl
@[simp] theorem x_look_int {n : Int} : look θ (.int n) = .int n := nr rfl
@[simp] theorem x_look_bl {n : Bool} : look θ (.bl n) = .bl n := nr rfl
@[simp] theorem x_look_str {n : Str} : look θ (.str n) = .str n := nr rfl
@[simp] theorem x_look_non : look θ .non = .non := nr rfl
@[simp] theorem x_ix_lst {xs : List D} {n : Int} : ixM (.lst xs) (.int n) θ = match atI xs n with | some d => .ok d θ | none => .bad := nr rfl
@[simp] theorem x_ix_tup {xs : List D} {n : Int} : ixM (.tup xs) (.int n) θ = match atI xs n with | some d => .ok d θ | none => .bad := nr rfl
@[simp] theorem x_ix_scr {xs : List Int} {n : Int} : ixM (.scr xs) (.int n) θ = match atI (xs.map D.int) n with | some d => .ok d θ | none => .bad := nr rfl
@[simp] theorem x_len {xs : List D} : lenG [.lst xs] θ = .ok (.int xs.length) θ := nr rfl
@[simp] theorem x_len_tup {xs : List D} : lenG [.tup xs] θ = .ok (.int xs.length) θ := nr rfl
@[simp] theorem x_len_scr {xs : List Int} : lenG [.scr xs] θ = .ok (.int (xs.map D.int).length) θ := nr rfl
@[simp] theorem x_sum {xs : List D} : sumG [.lst xs] θ = match intsD xs with | some ns => .ok (.int ns.sum) θ | none => .bad := nr rfl
@[simp] theorem x_all {xs : List D} : allG [.lst xs] θ = match blsD xs with | some ns => .ok (.bl (ns.all id)) θ | none => .bad := nr rfl
@[simp] theorem x_min {m n : Int} : minG [.int m, .int n] θ = .ok (.int (if n < m then n else m)) θ := nr rfl
@[simp] theorem x_min3 {m n k : Int} : minG [.int m, .int n, .int k] θ = .ok (.int (if n < m then (if k < n then k else n) else (if k < m then k else m))) θ := nr rfl
@[simp] theorem x_max {m n : Int} : maxG [.int m, .int n] θ = .ok (.int (if n > m then n else m)) θ := nr rfl
@[simp] theorem x_int {m : Int} : intG [.int m] θ = .ok (.int m) θ := nr rfl
@[simp] theorem x_intb {k : Bool} : intG [.bl k] θ = .ok (.int (if k then 1 else 0)) θ := nr rfl
@[simp] theorem x_list {xs : List D} : listG [.lst xs] θ = .ok (.lst xs) θ := nr rfl
@[simp] theorem x_list_tup {xs : List D} : listG [.tup xs] θ = .ok (.lst xs) θ := nr rfl
@[simp] theorem x_tuple {xs : List D} : tupleG [.lst xs] θ = .ok (.tup xs) θ := nr rfl
@[simp] theorem x_tuple_tup {xs : List D} : tupleG [.tup xs] θ = .ok (.tup xs) θ := nr rfl
@[simp] theorem x_is_int {m : Int} {n : String} : instG [.int m, .ty n] θ = match isT .int n with | some b => .ok (.bl b) θ | none => .bad := nr rfl
@[simp] theorem x_is_bl {m : Bool} {n : String} : instG [.bl m, .ty n] θ = match isT .bl n with | some b => .ok (.bl b) θ | none => .bad := nr rfl
@[simp] theorem x_is_lst {m : List D} {n : String} : instG [.lst m, .ty n] θ = match isT .lst n with | some b => .ok (.bl b) θ | none => .bad := nr rfl
@[simp] theorem x_is_tup {m : List D} {n : String} : instG [.tup m, .ty n] θ = match isT .tup n with | some b => .ok (.bl b) θ | none => .bad := nr rfl
@[simp] theorem x_is_str {m : Str} {n : String} : instG [.str m, .ty n] θ = match isT .str n with | some b => .ok (.bl b) θ | none => .bad := nr rfl
@[simp] theorem x_is_non {n : String} : instG [.non, .ty n] θ = match isT .non n with | some b => .ok (.bl b) θ | none => .bad := nr rfl
@[simp] theorem x_sl_tup {xs : List D} {lo hi : Option Int} : sliceD θ (.tup xs) lo hi = if HT.sIx xs.length 0 lo = 0 ∧ HT.sIx xs.length xs.length hi = xs.length then none else some (.tup (cutL xs lo hi)) := nr rfl
@[simp] theorem x_sl_lst {xs : List D} {lo hi : Option Int} : sliceD θ (.lst xs) lo hi = some (.lst (cutL xs lo hi)) := nr rfl
@[simp] theorem x_is {x : D} : isM x .non θ = .ok (.bl (isNon x)) θ := nr rfl
@[simp] theorem x_isb {x y : Bool} : isM (.bl x) (.bl y) θ = .ok (.bl (x == y)) θ := nr rfl
@[simp] theorem x_isnot {x : D} : isNotM x .non θ = .ok (.bl (!isNon x)) θ := nr rfl
@[simp] theorem x_isnotb {x y : Bool} : isNotM (.bl x) (.bl y) θ = .ok (.bl (!(x == y))) θ := nr rfl
end
mutual
def pl : Nat → D → Bool
  | _, .non => true
  | _, .bl _ => true
  | _, .int _ => true
  | _, .str x => PyData.strOk x
  | k + 1, .tup xs => pls k xs
  | k + 1, .lst xs => pls k xs
  | _, _ => false
def pls : Nat → List D → Bool
  | _, [] => true
  | k, d :: r => pl k d && pls k r
end
mutual
def noB : D → Bool
  | .bl _ => false
  | .tup xs => noBs xs
  | .lst xs => noBs xs
  | _ => true
def noBs : List D → Bool
  | [] => true
  | d :: r => noB d && noBs r
end
mutual
theorem pl_ok : ∀ (k : Nat) (d : D), pl k d = true → plain d = true ∧ (dat d).canLay0 = true ∧ (dat d).depth ≤ k
  | _, .non, _ => ⟨rfl, rfl, Nat.zero_le _⟩
  | _, .bl _, _ => ⟨rfl, rfl, Nat.zero_le _⟩
  | _, .int _, _ => ⟨rfl, rfl, Nat.zero_le _⟩
  | k, .str x, h => ⟨rfl, by cases k <;> simpa [pl, dat, PyData.canLay0] using h, Nat.zero_le _⟩
  | k + 1, .tup xs, h => by
    obtain ⟨a, b, c⟩ := pls_ok k xs (by simpa [pl] using h)
    exact ⟨a, b, by simp only [dat, PyData.depth]; omega⟩
  | k + 1, .lst xs, h => by
    obtain ⟨a, b, c⟩ := pls_ok k xs (by simpa [pl] using h)
    exact ⟨a, b, by simp only [dat, PyData.depth]; omega⟩
  | 0, .tup xs, h => by simp [pl] at h
  | 0, .lst xs, h => by simp [pl] at h
  | 0, .ty _, h => by simp [pl] at h
  | 0, .scr _, h => by simp [pl] at h
  | 0, .ref _, h => by simp [pl] at h
  | _ + 1, .ty _, h => by simp [pl] at h
  | _ + 1, .scr _, h => by simp [pl] at h
  | _ + 1, .ref _, h => by simp [pl] at h
theorem pls_ok : ∀ (k : Nat) (ds : List D), pls k ds = true → plains ds = true ∧ PyData.canLayAll0 (dats ds) = true ∧ PyData.depthAll (dats ds) ≤ k
  | _, [], _ => ⟨rfl, rfl, Nat.zero_le _⟩
  | k, d :: r, h => by
    have h' : pl k d = true ∧ pls k r = true := by simpa [pls] using h
    obtain ⟨a, b, c⟩ := pl_ok k d h'.1
    obtain ⟨a', b', c'⟩ := pls_ok k r h'.2
    exact ⟨by simp [plains, a, a'], by simp [dats, PyData.canLayAll0, b, b'], by simp only [dats, PyData.depthAll]; omega⟩
end
mutual
theorem noB_mix : ∀ (d e : D), noB d = true → noB e = true → noMix (dat d) (dat e) = true := fun d e p q => by
  cases d with
  | bl _ => simp [noB] at p
  | tup xs =>
    cases e with
    | bl _ => simp [noB] at q
    | tup ys => simp only [dat, noMix]; exact noBs_mix xs ys p q
    | _ => simp [dat, noMix]
  | lst xs =>
    cases e with
    | bl _ => simp [noB] at q
    | lst ys => simp only [dat, noMix]; exact noBs_mix xs ys p q
    | _ => simp [dat, noMix]
  | _ => cases e <;> simp_all [noB, dat, noMix]
theorem noBs_mix : ∀ (ds es : List D), noBs ds = true → noBs es = true → noMixAll (dats ds) (dats es) = true
  | [], [], _, _ => rfl
  | [], _ :: _, _, _ => rfl
  | _ :: _, [], _, _ => rfl
  | d :: ds, e :: es, p, q => by
    have p' : noB d = true ∧ noBs ds = true := by simpa [noBs] using p
    have q' : noB e = true ∧ noBs es = true := by simpa [noBs] using q
    simp only [dats, noMixAll, Bool.and_eq_true]
    exact ⟨noB_mix d e p'.1 q'.1, noBs_mix ds es p'.2 q'.2⟩
end
theorem shaped_pl {k : Nat} {d : D} (h : pl k d = true) (hk : k ≤ 64) : shaped (dat d) = true := by
  obtain ⟨_, b, c⟩ := pl_ok k d h
  unfold shaped
  rw [b, decide_eq_true (by omega)]
  rfl
theorem cmp_ok {x y : D} (h1 : pl 9 x = true) (h2 : pl 9 y = true) (h3 : noB x = true) (h4 : noB y = true) : CmpOk x y :=
  ⟨(pl_ok _ _ h1).1, (pl_ok _ _ h2).1, shaped_pl h1 (by decide), shaped_pl h2 (by decide), noB_mix x y h3 h4⟩
theorem cmp_bl {a b : Bool} : CmpOk (.bl a) (.bl b) := ⟨rfl, rfl, rfl, rfl, rfl⟩
section
open Classical
theorem eqM_of {x y : D} {θ : Sto} (h : CmpOk (look θ x) (look θ y)) : eqM x y θ = .ok (.bl (decide (look θ x = look θ y))) θ := if_pos h
theorem neM_of {x y : D} {θ : Sto} (h : CmpOk (look θ x) (look θ y)) : neM x y θ = .ok (.bl (!decide (look θ x = look θ y))) θ := if_pos h
end
@[simp] theorem pls_ints (k : Nat) (ns : List Int) : pls k (ns.map D.int) = true := by
  induction ns with
  | nil => rfl
  | cons n r ih => simp only [List.map_cons, pls, ih, Bool.and_true]; cases k <;> rfl
@[simp] theorem noBs_ints (ns : List Int) : noBs (ns.map D.int) = true := by
  induction ns with
  | nil => rfl
  | cons n r ih => simp only [List.map_cons, noBs, ih, Bool.and_true]; rfl
@[simp] theorem map_int_inj (ns ms : List Int) : (ns.map D.int = ms.map D.int) ↔ ns = ms := by
  constructor
  · intro h
    have : ∀ (ns ms : List Int), ns.map D.int = ms.map D.int → ns = ms := fun ns => by
      induction ns with
      | nil => intro ms h; cases ms with
        | nil => rfl
        | cons _ _ => cases h
      | cons n r ih => intro ms h; cases ms with
        | nil => cases h
        | cons m s => simp at h; rw [h.1, ih s h.2]
    exact this ns ms h
  · intro h; rw [h]
@[simp] theorem eq_int (a b : Int) (θ : Sto) : eqM (.int a) (.int b) θ = .ok (.bl (decide (a = b))) θ := by
  rw [eqM_of (cmp_ok rfl rfl rfl rfl)]
  simp
@[simp] theorem ne_int (a b : Int) (θ : Sto) : neM (.int a) (.int b) θ = .ok (.bl (!decide (a = b))) θ := by
  rw [neM_of (cmp_ok rfl rfl rfl rfl)]
  simp
@[simp] theorem eq_bl (a b : Bool) (θ : Sto) : eqM (.bl a) (.bl b) θ = .ok (.bl (decide (a = b))) θ := by
  rw [eqM_of (x := .bl a) (y := .bl b) cmp_bl]
  simp
@[simp] theorem ne_bl (a b : Bool) (θ : Sto) : neM (.bl a) (.bl b) θ = .ok (.bl (!decide (a = b))) θ := by
  rw [neM_of (x := .bl a) (y := .bl b) cmp_bl]
  simp
@[simp] theorem eq_ints (a b : List Int) (θ : Sto) : eqM (.lst (a.map D.int)) (.lst (b.map D.int)) θ = .ok (.bl (decide (a = b))) θ := by
  rw [eqM_of (cmp_ok (by simp [pl]) (by simp [pl]) (by simp [noB]) (by simp [noB]))]
  simp
@[simp] theorem ne_ints (a b : List Int) (θ : Sto) : neM (.lst (a.map D.int)) (.lst (b.map D.int)) θ = .ok (.bl (!decide (a = b))) θ := by
  rw [neM_of (cmp_ok (by simp [pl]) (by simp [pl]) (by simp [noB]) (by simp [noB]))]
  simp
end
end L2.MM
set_option Elab.async false
set_option linter.all false
set_option maxRecDepth 100000
set_option maxHeartbeats 4000000
namespace L2.MM
open PySem PySem.Spec PyProof.Rows PySem.SeqAt My
noncomputable section
@[simp] theorem BIG_eq : BIG = 100000 := nr rfl
def il (ns : List Int) : D := .lst (ns.map D.int)
def itp (ns : List Int) : D := .tup (ns.map D.int)
section
variable {θ : Sto} {a b ns ms : List Int} {i j : Int}
@[simp] theorem f_il0 : D.lst (ns.map D.int) = il ns := nr rfl
@[simp] theorem f_it0 : D.tup (ns.map D.int) = itp ns := nr rfl
theorem il_nil : D.lst [] = il [] := rfl
@[simp] theorem f_il1 (x : Int) : D.lst [.int x] = il [x] := nr rfl
@[simp] theorem f_il2 (x y : Int) : D.lst [.int x, .int y] = il [x, y] := nr rfl
@[simp] theorem f_il4 (x y z w : Int) : D.lst [.int x, .int y, .int z, .int w] = il [x, y, z, w] := nr rfl
@[simp] theorem f_il3 (x y z : Int) : D.lst [.int x, .int y, .int z] = il [x, y, z] := nr rfl
@[simp] theorem f_il5 (x y z w v : Int) : D.lst [.int x, .int y, .int z, .int w, .int v] = il [x, y, z, w, v] := nr rfl
@[simp] theorem f_il6 (x y z w v u : Int) : D.lst [.int x, .int y, .int z, .int w, .int v, .int u] = il [x, y, z, w, v, u] := nr rfl
@[simp] theorem f_il7 (x y z w v u t : Int) : D.lst [.int x, .int y, .int z, .int w, .int v, .int u, .int t] = il [x, y, z, w, v, u, t] := nr rfl
@[simp] theorem il_inj : il a = il b ↔ a = b := by
  show D.lst _ = D.lst _ ↔ _
  rw [D.lst.injEq, map_int_inj]
@[simp] theorem it_inj : itp a = itp b ↔ a = b := by
  show D.tup _ = D.tup _ ↔ _
  rw [D.tup.injEq, map_int_inj]
@[simp] theorem il_lstOf : lstOf θ (il a) = some (a.map D.int) := nr rfl
@[simp] theorem il_seqOf : seqOf θ (il a) = some (a.map D.int) := nr rfl
@[simp] theorem it_seqOf : seqOf θ (itp a) = some (a.map D.int) := nr rfl
@[simp] theorem il_look : look θ (il a) = il a := nr rfl
@[simp] theorem it_look : look θ (itp a) = itp a := nr rfl
@[simp] theorem il_add : addM (il a) (il b) θ = if a.length + b.length ≤ BIG then .ok (il (a ++ b)) θ else .bad := by
  unfold il
  rw [addM_lst]
  simp [il]
theorem il_addc (h : a.length + b.length ≤ 100000) : addM (il a) (il b) θ = .ok (il (a ++ b)) θ := by
  rw [il_add, if_pos h]
@[simp] theorem il_len : lenG [il a] θ = .ok (.int a.length) θ := by
  unfold il; rw [x_len]; simp
@[simp] theorem it_len : lenG [itp a] θ = .ok (.int a.length) θ := by
  unfold itp; rw [x_len_tup]; simp
theorem atI_map {α β : Type} (f : α → β) (xs : List α) (n : Int) : atI (xs.map f) n = (atI xs n).map f := by
  unfold L2.atI
  rw [List.length_map]
  cases ixN xs.length n with
  | none => rfl
  | some k => simp
theorem il_ix : ixM (il a) (.int i) θ = match atI a i with | some z => .ok (.int z) θ | none => .bad := by
  unfold il
  rw [x_ix_lst, atI_map]
  cases atI a i <;> rfl
theorem atI_dflt {xs : List Int} {i : Int} (h0 : 0 ≤ i) (h : i < xs.length) : atI xs i = some (xs.getD i.toNat 0) := by
  have c : i = ((i.toNat : Nat) : Int) := by omega
  rw [c]
  refine atI_nat ?_
  have d : i.toNat < xs.length := by omega
  rw [List.getD_eq_getElem?_getD, Int.toNat_natCast, List.getElem?_eq_getElem d]
  rfl
def gt (a : List Int) (i : Nat) : Int := a.getD i 0
theorem il_get (h0 : 0 ≤ i) (h : i < a.length) : ixM (il a) (.int i) θ = .ok (.int (gt a i.toNat)) θ := by rw [il_ix, atI_dflt h0 h]; rfl
@[simp] theorem il_ix0 {x : Int} {r : List Int} : ixM (il (x :: r)) (.int 0) θ = .ok (.int x) θ := il_get (a := x :: r) (i := 0) (by decide) (by rw [List.length_cons]; omega)
@[simp] theorem il_ix1 {x y : Int} {r : List Int} : ixM (il (x :: y :: r)) (.int 1) θ = .ok (.int y) θ := il_get (a := x :: y :: r) (i := 1) (by decide) (by rw [List.length_cons, List.length_cons]; omega)
@[simp high] theorem tix0 {x : D} {r : List D} : ixM (.tup (x :: r)) (.int 0) θ = .ok x θ := by
  rw [x_ix_tup, show (0 : Int) = ((0 : Nat) : Int) from rfl, atI_nat (j := 0) (v := x) rfl]
@[simp high] theorem tix1 {x y : D} {r : List D} : ixM (.tup (x :: y :: r)) (.int 1) θ = .ok y θ := by
  rw [x_ix_tup, show (1 : Int) = ((1 : Nat) : Int) from rfl, atI_nat (j := 1) (v := y) rfl]
@[simp high] theorem tix2 {x y z : D} {r : List D} : ixM (.tup (x :: y :: z :: r)) (.int 2) θ = .ok z θ := by
  rw [x_ix_tup, show (2 : Int) = ((2 : Nat) : Int) from rfl, atI_nat (j := 2) (v := z) rfl]
@[simp high] theorem tix3 {x y z w : D} {r : List D} : ixM (.tup (x :: y :: z :: w :: r)) (.int 3) θ = .ok w θ := by
  rw [x_ix_tup, show (3 : Int) = ((3 : Nat) : Int) from rfl, atI_nat (j := 3) (v := w) rfl]
theorem cutL_map {α β : Type} (f : α → β) (xs : List α) (lo hi : Option Int) : cutL (xs.map f) lo hi = (cutL xs lo hi).map f := by
  unfold cutL
  rw [List.length_map, List.map_take, List.map_drop]
@[simp] theorem il_sl {lo hi : Option Int} : sliceD θ (il a) lo hi = some (il (cutL a lo hi)) := by
  unfold il; rw [x_sl_lst, cutL_map]
@[simp] theorem il_tru : truD θ (il a) = some (!a.isEmpty) := by
  unfold il; rw [x_truD_lst]; simp
@[simp] theorem it_tru : truD θ (itp a) = some (!a.isEmpty) := by
  unfold itp; rw [x_truD_tup]; simp
@[simp] theorem il_list : listG [il a] θ = .ok (il a) θ := nr rfl
@[simp] theorem it_list : listG [itp a] θ = .ok (il a) θ := nr rfl
@[simp] theorem il_tuple : tupleG [il a] θ = .ok (itp a) θ := nr rfl
@[simp] theorem it_tuple : tupleG [itp a] θ = .ok (itp a) θ := nr rfl
@[simp] theorem il_sum : sumG [il a] θ = .ok (.int a.sum) θ := by unfold il; rw [x_sum, ints_map]
@[simp] theorem il_is {n : String} : instG [il a, .ty n] θ = match isT .lst n with | some b => .ok (.bl b) θ | none => .bad := nr rfl
@[simp] theorem it_is {n : String} : instG [itp a, .ty n] θ = match isT .tup n with | some b => .ok (.bl b) θ | none => .bad := nr rfl
@[simp] theorem il_eq : eqM (il a) (il b) θ = .ok (.bl (decide (a = b))) θ := eq_ints a b θ
@[simp] theorem il_ne : neM (il a) (il b) θ = .ok (.bl (!decide (a = b))) θ := ne_ints a b θ
@[simp] theorem il_isNon : isNon (il a) = false := nr rfl
@[simp] theorem il_pl {k : Nat} : pl (k + 1) (il a) = true := pls_ints k a
@[simp] theorem it_pl {k : Nat} : pl (k + 1) (itp a) = true := pls_ints k a
@[simp] theorem il_noB : noB (il a) = true := noBs_ints a
@[simp] theorem it_noB : noB (itp a) = true := noBs_ints a
@[simp] theorem il_mul {k : Int} : mulM (il a) (.int k) θ = if -1000000 ≤ k ∧ k ≤ 1000000 ∧ a.length * k.toNat ≤ BIG then .ok (il (List.replicate k.toNat a).flatten) θ else .bad := by
  unfold il
  rw [mulM_lst, List.length_map]
  have : (List.replicate k.toNat (a.map D.int)).flatten = (List.replicate k.toNat a).flatten.map D.int := by
    rw [List.map_flatten, List.map_replicate]
  rw [this]
@[simp] theorem it_mul {k : Int} : mulM (itp a) (.int k) θ = if a.isEmpty = false ∧ 0 ≤ k ∧ k < 1000 ∧ (a.length : Int) * k ≤ 1000 then .ok (itp (List.replicate k.toNat a).flatten) θ else .bad := by
  unfold itp
  rw [mulM_tup, List.length_map]
  have : (List.replicate k.toNat (a.map D.int)).flatten = (List.replicate k.toNat a).flatten.map D.int := by
    rw [List.map_flatten, List.map_replicate]
  rw [this]
  simp
theorem pickL_map {α β : Type} (f : α → β) (xs : List α) (lo hi st : Option Int) : pickL (xs.map f) lo hi st = (pickL xs lo hi st).map f := by
  unfold pickL
  rw [List.length_map, List.map_filterMap]
  congr
  funext k
  simp
theorem mapV_inj : ∀ {ns ms : List Int}, ns.map V.int = ms.map V.int → ns = ms
  | [], [], _ => rfl
  | [], _ :: _, h => by cases h
  | _ :: _, [], h => by cases h
  | _ :: _, _ :: _, h => by simp at h; rw [h.1, mapV_inj h.2]
@[simp] theorem pick_evens' (ns : List Int) : pickL ns none none (some 2) = evens ns := mapV_inj (by
  have := cut_evens ns
  rw [show pickV (ns.map V.int) none none (some 2) = pickL (ns.map V.int) none none (some 2) from rfl, pickL_map] at this
  exact this)
@[simp] theorem pick_odds' (ns : List Int) : pickL ns (some 1) none (some 2) = odds ns := mapV_inj (by
  have := cut_odds ns
  rw [show pickV (ns.map V.int) (some 1) none (some 2) = pickL (ns.map V.int) (some 1) none (some 2) from rfl, pickL_map] at this
  exact this)
end
theorem sIx_nn {n d : Nat} {k : Int} (h : 0 ≤ k) : HT.sIx n d (some k) = min k.toNat n := by
  have c : k = ((k.toNat : Nat) : Int) := by omega
  rw [c]
  exact HT.sIx_nat n d k.toNat
theorem cut_to {α : Type} (xs : List α) {k : Int} (h : 0 ≤ k) : cutL xs none (some k) = xs.take k.toNat := by
  unfold cutL
  rw [HT.sIx_none, sIx_nn h, List.drop_zero, Nat.sub_zero, ← List.take_take, List.take_length]
theorem cut_from {α : Type} (xs : List α) {k : Int} (h : 0 ≤ k) : cutL xs (some k) none = xs.drop k.toNat := by
  unfold cutL
  rw [HT.sIx_none, sIx_nn h]
  by_cases q : k.toNat ≤ xs.length
  · rw [Nat.min_eq_left q, List.take_of_length_le]
    rw [List.length_drop]
    exact Nat.le_refl _
  · rw [Nat.min_eq_right (by omega), List.drop_length, List.drop_eq_nil_of_le (by omega)]
    simp
section
variable {θ : Sto} {ρ : List Sl}
@[simp] theorem rng_items {lo : Int} {n : Nat} : (Src.rng lo n).items θ = some ((List.range n).map fun (i : Nat) => D.int (lo + (i : Int))) := nr rfl
@[simp] theorem seq_items {d : D} : (Src.seq d).items θ = seqOf θ d := nr rfl
open Classical in
theorem comp_pure {S : Src} {all : List D} {elt : D → Sto → R D} {θ : Sto} (f : D → D) (hS : S.items θ = some all) : ∀ (xs acc : List D), (∀ x ∈ xs, elt x θ = .ok (f x) θ) → (acc.length + xs.length ≤ BIG) → compL S all elt xs acc θ = .ok (.lst (acc ++ xs.map f)) θ
  | [], acc, _, hl => by
    unfold compL
    rw [if_pos ⟨hS, by simpa using hl⟩]
    simp
  | x :: r, acc, h, hl => by
    unfold compL
    rw [if_pos hS, h x List.mem_cons_self]
    rw [R.bind_ok, comp_pure f hS r (acc ++ [f x]) (fun y hy => h y (List.mem_cons_of_mem _ hy)) (by simp at hl ⊢; omega)]
    simp
theorem mComp_rng {fi : IM} {src : List Nat} {elt : EM} {lo : Int} {n : Nat} {θ' : Sto} (f : Int → D) (hi : fi ρ θ = .ok (.rng lo n) θ') (hn : n ≤ BIG) (he : ∀ i : Nat, i < n → elt (inEnv src ρ (.int (lo + i))) θ' = .ok (f (lo + i)) θ') :
    mComp fi src elt ρ θ = .ok (.lst ((List.range n).map fun (i : Nat) => f (lo + i))) θ' := by
  unfold mComp
  rw [hi, R.bind_ok]
  simp only [rng_items]
  rw [if_pos (by simpa using hn), comp_pure (fun d => match d with | .int k => f k | d => d) rfl]
  · simp
  · intro x hx
    obtain ⟨i, hi, rfl⟩ := List.mem_map.mp hx
    exact he i (List.mem_range.mp hi)
  · simpa using hn
theorem mComp_seq {fi : IM} {src : List Nat} {elt : EM} {d : D} {xs : List D} {θ' : Sto} (f : D → D) (hi : fi ρ θ = .ok (.seq d) θ') (hd : seqOf θ' d = some xs) (hn : xs.length ≤ BIG) (he : ∀ x ∈ xs, elt (inEnv src ρ x) θ' = .ok (f x) θ') :
    mComp fi src elt ρ θ = .ok (.lst (xs.map f)) θ' := by
  unfold mComp
  rw [hi, R.bind_ok]
  simp only [seq_items, hd]
  rw [if_pos hn, comp_pure (S := .seq d) f hd xs [] he (by simpa using hn)]
  simp
@[simp] theorem inEnv_eq {src : List Nat} {x : D} : inEnv src ρ x = Sl.val x :: src.map fun (j : Nat) => match ρ[j]? with | some (Sl.val d) => Sl.val d | _ => Sl.no := nr rfl
open Classical in
theorem for_rng {lo : Int} {n : Nat} {all : List D} {tg : TgM} {body : SM} (st : Nat → List Sl) (hs : ∀ i ρ1, i < n → tg (.int (lo + i)) (st i) = some ρ1 → body ρ1 θ = .ok (.nx, st (i + 1)) θ) (ht : ∀ i, i < n → ∃ ρ1, tg (.int (lo + i)) (st i) = some ρ1) (hall : all = (List.range n).map fun (i : Nat) => D.int (lo + (i : Int))) :
    forL (.rng lo n) all tg body all (st 0) θ = .ok (.nx, st n) θ := by
  subst hall
  have key : ∀ m, m ≤ n → forL (.rng lo n) ((List.range n).map fun (i : Nat) => D.int (lo + (i : Int))) tg body (((List.range n).map fun (i : Nat) => D.int (lo + (i : Int))).drop (n - m)) (st (n - m)) θ = .ok (.nx, st n) θ := fun m => by
    induction m with
    | zero =>
      intro _
      rw [Nat.sub_zero, List.drop_eq_nil_of_le (by simp)]
      simp [forL]
    | succ m ih =>
      intro hm
      have hlt : n - (m + 1) < n := by omega
      rw [List.drop_eq_getElem_cons (by simpa using hlt)]
      obtain ⟨ρ1, h1⟩ := ht (n - (m + 1)) hlt
      have h2 := hs (n - (m + 1)) ρ1 hlt h1
      have e : n - (m + 1) + 1 = n - m := by omega
      simp only [List.getElem_map, List.getElem_range, forL, rng_items, if_true, h1]
      rw [h2, R.bind_ok, x_loop_nx, e]
      exact ih (by omega)
  have := key n (Nat.le_refl _)
  rw [Nat.sub_self, List.drop_zero] at this
  exact this
end
end
end L2.MM
set_option Elab.async false
set_option linter.all false
set_option maxRecDepth 100000
set_option maxHeartbeats 4000000
namespace L2.MM
open PySem PySem.Spec PyProof.Rows PySem.SeqAt
noncomputable section
variable {X : Cx}
theorem mss_never {sts : List Stmt} : MSs X sts mBad := fun _ _ _ _ _ _ h => by obtain ⟨_, _, _, _, w⟩ := h; exact w.elim
def putFD (f : Str) (v : D) : List (Str × D) → List (Str × D)
  | [] => [(f, v)]
  | (g, x) :: r => if g = f then (g, v) :: r else (g, x) :: putFD f v r
theorem RepKV.put {B : Bx} {H : Hp} {f : Str} {d : D} {v : V} (q : RepV B H d v) : ∀ {fs : List (Str × D)} {vs : List (Str × V)}, RepKV B H fs vs → RepKV B H (putFD f d fs) (putF f v vs)
  | _, _, .nil => .cons ⟨rfl, q⟩ .nil
  | (g, x) :: fs, (g', y) :: vs, .cons h t => by
    obtain ⟨h1, h2⟩ := h
    cases (show g = g' from h1)
    unfold putFD putF
    by_cases e : g = f
    · rw [if_pos e, if_pos e]; exact .cons ⟨rfl, q⟩ t
    · rw [if_neg e, if_neg e]; exact .cons ⟨rfl, h2⟩ (RepKV.put q t)
theorem RepKV.len {κ : Type} {B : Bx} {H : Hp} : ∀ {fs : List (κ × D)} {vs : List (κ × V)}, RepKV B H fs vs → vs.length = fs.length
  | _, _, .nil => rfl
  | _, _, .cons _ t => by rw [List.length_cons, List.length_cons, RepKV.len t]
theorem RepKV.get {B : Bx} {H : Hp} {f : Str} {d : D} : ∀ {fs : List (Str × D)} {vs : List (Str × V)}, RepKV B H fs vs → fs.lookup f = some d → ∃ v, vs.lookup f = some v ∧ RepV B H d v
  | _, _, .nil, h => by cases h
  | (g, x) :: fs, (g', y) :: vs, .cons h t, e => by
    obtain ⟨h1, h2⟩ := h
    cases (show g = g' from h1)
    rw [List.lookup_cons] at e ⊢
    cases q : f == g with
    | true => rw [q] at e; cases e; exact ⟨y, rfl, h2⟩
    | false => rw [q] at e; exact RepKV.get t e
theorem RepKV.none {B : Bx} {H : Hp} {f : Str} : ∀ {fs : List (Str × D)} {vs : List (Str × V)}, RepKV B H fs vs → fs.lookup f = none → vs.lookup f = none
  | _, _, .nil, h => rfl
  | (g, x) :: fs, (g', y) :: vs, .cons h t, e => by
    obtain ⟨h1, h2⟩ := h
    cases (show g = g' from h1)
    rw [List.lookup_cons] at e ⊢
    cases q : f == g with
    | true => rw [q] at e; cases e
    | false => rw [q] at e; exact RepKV.none t e
def insOf (θ : Sto) : D → Option (Nat × Str × List (Str × D))
  | .ref l => match θ[l]? with
    | some (.ins C fs) => some (l, C, fs)
    | _ => none
  | _ => none
theorem insOf_at {cl : Mo} {B : Bx} {θ : Sto} {H : Hp} (G : Good cl B θ H) {d : D} {v : V} {l : Nat} {C : Str} {fs : List (Str × D)} (r : RepV B H d v) (h : insOf θ d = some (l, C, fs)) :
    l < B.n ∧ v = .ref (B.m l) ∧ ∃ dx vs, H (B.m l) = some (.ins (cl.cl C) dx vs) ∧ RepKV B H fs vs := by
  cases d with
  | ref k =>
    simp only [insOf] at h
    split at h
    · rename_i C' fs' e
      cases h
      obtain ⟨hl, rfl⟩ := r
      obtain ⟨dx, vs, h1, h2⟩ := G.cel _ _ e
      exact ⟨hl, rfl, dx, vs, h1, h2⟩
    · cases h
  | _ => cases h
def fldK (cs : List Str) (f : Str) : D → Sto → R D := fun d θ => match insOf θ d with
  | some (_, C, fs) => if cs.contains C = true then (match fs.lookup f with
    | some v => .ok v θ
    | none => .bad) else .bad
  | none => .bad
def mFld (cs : List Str) (f : Str) (fe : EM) : EM := fun ρ θ => (fe ρ θ).bind (fldK cs f)
def ClsOk (X : Cx) (f : Str) (C : Str) : Prop := Cls X.K (X.cl.cl C) ∧ NoAttr X.K (X.cl.cl C) f
theorem all1 {P : Str → Prop} {a : Str} (h : P a) : ∀ C, [a].contains C = true → P C := fun C hc => by
  have : C = a := by simpa using hc
  rw [this]; exact h
theorem me_fld {cs : List Str} {f : Str} {e : Expr} {fe : EM} {pos : Pos} (hc : ∀ C, cs.contains C = true → ClsOk X f C) (he : ME X e fe) (hb : attributeBase e f X.env (eval e X.env) = eval e X.env := by rfl) : ME X (.Attribute e f pos) (mFld cs f fe) := by
  refine PE.imp (pe_fld he hb) fun σ H Q h => ?_
  obtain ⟨B, θ, ρ, F, w⟩ := h
  refine tM_mono (step F w) ?_
  rintro v H1 ⟨B1, θ1, d, E1, F1, rd, w1⟩
  unfold fldK at w1
  split at w1
  · rename_i l C fs e1
    split at w1
    · rename_i hC
      split at w1
      · rename_i y ey
        obtain ⟨hl, rfl, dx, vs, h1, h2⟩ := insOf_at F1.good rd e1
        obtain ⟨u, h3, h4⟩ := h2.get ey
        exact ⟨_, _, dx, vs, u, rfl, h1, (hc C hC).1, (hc C hC).2, h3, wp_now F1.good h4 w1⟩
      · exact w1.elim
    · exact w1.elim
  · exact w1.elim
def setK (cs : List Str) (f : Str) (y d : D) (θ : Sto) : Option Sto := match insOf θ d with
  | some (l, C, fs) => if cs.contains C = true ∧ fs.length < 1000 then some (θ.set l (.ins C (putFD f y fs))) else none
  | none => none
def mSetF (cs : List Str) (f : Str) (fe fv : EM) : SM := fun ρ θ => (fv ρ θ).bind fun y θ => (fe ρ θ).bind fun d θ => match setK cs f y d θ with
  | some θ' => .ok (.nx, ρ) θ'
  | none => .bad
theorem ms_fld {cs : List Str} {f : Str} {o value : Expr} {fe fv : EM} {pos pos' : Pos} (hc : ∀ C, cs.contains C = true → ClsOk X f C) (he : ME X o fe) (hv : ME X value fv) (hs : swapsWith value (some (.Attribute o f pos')) pos.line X.env = pure false := by rfl) :
    MS X (.Assign [.Attribute o f pos'] value pos) (mSetF cs f fe fv) :=
  PS.imp (ps_fld he hv hs) fun D σ H h => by
  obtain ⟨B, θ, ρ, F, w⟩ := h
  refine tM_mono (stepS F w) ?_
  rintro y H1 ⟨B1, θ1, dy, E1, F1, ry, w1⟩
  refine tM_mono (stepS F1 w1) ?_
  rintro v H2 ⟨B2, θ2, d, E2, F2, rd, w2⟩
  unfold setK at w2
  cases e1 : insOf θ2 d with
  | none => rw [e1] at w2; exact w2.elim
  | some q =>
    obtain ⟨l, C, fs⟩ := q
    rw [e1] at w2
    simp only at w2
    by_cases hC : cs.contains C = true ∧ fs.length < 1000
    · rw [if_pos hC] at w2
      obtain ⟨hl, rfl, dx, vs, h1, h2⟩ := insOf_at F2.good rd e1
      refine ⟨_, _, dx, vs, rfl, h1, (hc C hC.1).1, (hc C hC.1).2, by rw [h2.len]; exact hC.2, ?_⟩
      have E3 := ext_set F2.good hl (.ins (X.cl.cl C) dx (putF f y vs))
      have G3 := good_set F2.good hl (o := .ins (X.cl.cl C) dx (putF f y vs)) (c := .ins C (putFD f dy fs)) ⟨dx, _, upd_same, (h2.put (ry.ext E2.toExtS)).ext E3.toExtS⟩
      exact w2 _ _ _ E3.toExtS (F2.ext E3 G3)
    · rw [if_neg hC] at w2
      exact w2.elim
structure MMk (P : Program) (w : World) (K : PySem.W.Frag) (mg : Str → Option Value) (base : Heap) (k : Nat) (C : Str) (f : GM) : Prop where
  ex : ∃ (fI : Addr) (fd : FuncData) (ps : List Str), Mk K (clOf mg C) fI ∧ FnOk P w K mg base CX0 k fI fd ps (spM ⟨clOf mg, K⟩ f) ∧ Binds K fd ps []
  mg : mg C = some (.ref (clOf mg C))
def mkG (C : Str) (f : GM) : GM := fun vs θ => (f (.ref θ.length :: vs) (θ ++ [.ins C []])).bind fun v θ' => match v with
  | .non => .ok (.ref θ.length) θ'
  | _ => .bad
theorem wpR.made {σ : St} {B : Bx} {θ : Sto} {H : Hp} {C : Str} {f : GM} {ds : List D} {vs : List V} {Q : VK} {E : XK} (G : Good X.cl B θ H) (r : RepL B H ds vs) (w : wpR X σ RepV B H (mkG C f ds θ) Q) :
    ∀ x dx, H x = none → H dx = none → dx ≠ x → spM X.cl f (.ref x :: (vs ++ [])) (upd (upd H dx (.own x)) x (.ins (X.cl.cl C) dx [])) (fun v H2 => v = .non ∧ Q (.ref x) H2) E := by
  intro x dx hx hdx ne
  have E1 := ext_new G hdx (.own x)
  have G1 := good_new G hdx (.own x)
  have hx1 : upd H dx (.own x) x = none := by rw [upd_ne (Ne.symm ne)]; exact hx
  have E2 := ext_cell G1 hx1 (.ins (X.cl.cl C) dx [])
  have G2 : Good X.cl (B.push x) (θ ++ [.ins C []]) _ := good_cell G1 hx1 (o := .ins (X.cl.cl C) dx []) (c := .ins C []) ⟨dx, [], upd_same, .nil⟩
  have rx : RepV (B.push x) (upd (upd H dx (.own x)) x (.ins (X.cl.cl C) dx [])) (.ref θ.length) (.ref x) := ⟨by rw [G.len]; exact Nat.lt_succ_self _, by rw [G.len]; show V.ref x = V.ref (if B.n = B.n then x else B.m B.n); rw [if_pos rfl]⟩
  rw [List.append_nil]
  refine call_sp (σ := σ) G2 (show RepL _ _ (.ref θ.length :: ds) (.ref x :: vs) from ⟨_, _, rfl, rx, r.ext (E1.trans E2).toExtS⟩) ?_
  have w1 := wpR.trans w (E1.trans E2)
  refine (wpR.bind (Rel := RepV) w1).mono ?_
  rintro v H3 ⟨B3, θ3, d, E3, G3, rd, w3⟩
  cases d with
  | non => exact ⟨rd, wp_now G3 (rx.ext E3.toExtS) w3⟩
  | _ => exact w3.elim
theorem me_make {k j : Nat} {x : Str} {f : GM} {p pos : Pos} {e : Expr} {es : List Expr} {fs : AM} (M : MMk X.prog X.w X.K X.mg X.base k x f) (hr : Room j X.A) (hj : k + 1 ≤ j) (ha : MA X (e :: es) fs) (hg : Gl X x := by rfl) (hdb : (x == ("__debug__" : Str)) = false := by decide)
    (he : starEach (e :: es) X.env = (false, eval e X.env) :: starEach es X.env := by rfl) (hpl : (backTo pos (starEach es X.env)).any (·.1) = false := by rfl) : ME X (.Call (.Name x p) (e :: es) [] pos) (mCB (mkG x f) fs) := by
  obtain ⟨fI, fd, ps, m, F0, b⟩ := M.ex
  refine PE.imp (pe_make m F0 (hr.mono hj) hg M.mg b .nil pass0 ha hdb he hpl) fun σ H Q h => ?_
  obtain ⟨B, θ, ρ, F, w⟩ := h
  refine tMA_mono (stepA F w) ?_
  rintro vs H1 ⟨B1, θ1, ds, E1, F1, rd, w1⟩
  exact wpR.made F1.good rd w1
theorem me_make0 {k j : Nat} {x : Str} {f : GM} {p pos : Pos} (M : MMk X.prog X.w X.K X.mg X.base k x f) (hr : Room j X.A) (hj : k + 1 ≤ j) (hg : Gl X x := by rfl) (hdb : (x == ("__debug__" : Str)) = false := by decide) : ME X (.Call (.Name x p) [] [] pos) (mCB (mkG x f) mNil) := by
  obtain ⟨fI, fd, ps, m, F0, b⟩ := M.ex
  refine PE.imp (pe_make0 m F0 (hr.mono hj) hg M.mg b .nil pass0 hdb) fun σ H Q h => ?_
  obtain ⟨B, θ, ρ, F, w⟩ := h
  exact wpR.made (ds := []) (vs := []) F.good (show RepL B H [] [] from rfl) w
structure MMeth (P : Program) (w : World) (K : PySem.W.Frag) (mg : Str → Option Value) (base : Heap) (k : Nat) (C m : Str) (f : GM) : Prop where
  ex : ∃ (fa : Addr) (fd : FuncData) (ps : List Str), Meth K (clOf mg C) m fa ∧ FnOk P w K mg base CX0 k fa fd ps (spM ⟨clOf mg, K⟩ f) ∧ Binds K fd ps []
  cl : Cls K (clOf mg C)
instance {C C' : Str} {gs : List (Str × D)} {m : Str} : Decidable (C' = C ∧ gs.lookup m = none) := by
  cases h : gs.lookup m with
  | none => exact if e : C' = C then isTrue ⟨e, rfl⟩ else isFalse fun z => e z.1
  | some _ => exact isFalse fun z => nomatch z.2
theorem mmk {P : Program} {w : World} {K : PySem.W.Frag} {mg : Str → Option Value} {base : Heap} {x qual : Str} {st : Stmt} {N ps : List Str} {k : Nat} {fb : SM} {f : Addr} {fd : FuncData} {C : Str} (F : Fun K x qual st f fd) (S : FnScope N ps (defScope st)) (np nn : Nat) (hp : ps.length = np) (hn : N.length = nn) (b : Binds K fd ps []) (M : Mk K (clOf mg C) f) (hm : mg C = some (.ref (clOf mg C)))
    (hbody : ∀ (cdv : Value) (A : Around) (outer : List Env) (s : Shared) (H : Hp) (E : XK), Room k (A.deeper (envOfC qual (defScope st) s.heap.objs.size f cdv)) → MSs (cxOf CX0 P w K mg base N qual (defScope st) f cdv A outer s H E).nox (defBody st) fb) : MMk P w K mg base (k + 1) C (mDef np nn fb) :=
  ⟨⟨f, fd, ps, M, mfn F S np nn hp hn hbody, b⟩, hm⟩
def mDict0 : EM := fun _ θ => .ok (.ref θ.length) (θ ++ [.dK []])
def mDict0T : EM := fun _ θ => .ok (.ref θ.length) (θ ++ [.dT []])
theorem me_dict0 {pos : Pos} : ME X (.Dict [] [] pos) mDict0 := by
  refine PE.imp pe_dnewK fun σ H Q h => ?_
  obtain ⟨B, θ, ρ, F, w⟩ := h
  intro p hp
  have G := F.good
  exact w (B.push p) _ _ (ext_cell G hp _) (good_cell G hp ⟨[], upd_same, .nil⟩) ⟨by rw [G.len]; exact Nat.lt_succ_self _, by rw [G.len]; show V.ref p = V.ref (if B.n = B.n then p else B.m B.n); rw [if_pos rfl]⟩
section
variable {ρ : List Sl} {θ : Sto} {fe fv fo : EM} {cs : List Str} {f : Str}
@[simp] theorem x_fld : mFld cs f fe ρ θ = (fe ρ θ).bind (fldK cs f) := nr rfl
@[simp] theorem x_setF : mSetF cs f fe fv ρ θ = (fv ρ θ).bind fun y θ => (fe ρ θ).bind fun d θ => match setK cs f y d θ with
  | some θ' => .ok (.nx, ρ) θ'
  | none => .bad := nr rfl
@[simp] theorem x_dict0 : mDict0 ρ θ = .ok (.ref θ.length) (θ ++ [.dK []]) := nr rfl
@[simp] theorem x_dict0T : mDict0T ρ θ = .ok (.ref θ.length) (θ ++ [.dT []]) := nr rfl
end
end
end L2.MM
namespace L2.MM
open PySem PySem.Spec PyProof.Rows PySem.SeqAt
def Mk0 (K : PySem.W.Frag) (mg : Str → Option Value) (C qual : Str) (st : Stmt) (ps : List Str) : Prop :=
  ∃ (f : Addr) (fd : FuncData), Fun K "__init__" qual st f fd ∧ Binds K fd ps [] ∧ Mk K (clOf mg C) f ∧ mg C = some (.ref (clOf mg C))
theorem clOf_eq {mg : Str → Option Value} {x : Str} {a : Addr} (h : mg x = some (.ref a)) : clOf mg x = a := by unfold clOf; rw [h]
theorem mk0 {P : Program} {w : World} {K : PySem.W.Frag} {mg : Str → Option Value} {base : Heap} {qual : Str} {st : Stmt} {N ps : List Str} {k : Nat} {fb : SM} {C : Str} (D : Mk0 K mg C qual st ps) (S : FnScope N ps (defScope st)) (np nn : Nat) (hp : ps.length = np) (hn : N.length = nn)
    (hbody : ∀ (f : Addr) (cdv : Value) (A : Around) (outer : List Env) (s : Shared) (H : Hp) (E : XK), Room k (A.deeper (envOfC qual (defScope st) s.heap.objs.size f cdv)) → MSs (cxOf CX0 P w K mg base N qual (defScope st) f cdv A outer s H E).nox (defBody st) fb) : MMk P w K mg base (k + 1) C (mDef np nn fb) := by
  obtain ⟨f, fd, F, b, M, hm⟩ := D
  exact mmk F S np nn hp hn b M hm (hbody f)
end L2.MM
set_option Elab.async false
set_option linter.all false
set_option maxRecDepth 100000
set_option maxHeartbeats 4000000
namespace My
open PySem L2 L2.MM
noncomputable section
def b_p_folded_1 : SM := (whileL (mTest (mOp gtM (mVar 1) (mC (.int 65535)))) (mSet 1 (mOp addM (mOp modM (mVar 1) (mC (.int 65536))) (mOp divM (mVar 1) (mC (.int 65536))))) 200)
def b_p_folded : SM := (mSeq (mSet 1 (mOp addM (mOp mulM (mC (.int 256)) (mCB sumG (mCons (mSl3 (mVar 0) mNoPart mNoPart (mPart (mC (.int 2)))) mNil))) (mCB sumG (mCons (mSl3 (mVar 0) (mPart (mC (.int 1))) mNoPart (mPart (mC (.int 2)))) mNil))))
  (mSeq b_p_folded_1
  (mRet (mVar 1))))
def p_folded : GM := mDef 1 2 b_p_folded
def b_p_sum_of : SM := (mRet (mOp subM (mC (.int 65535)) (mCB p_folded (mCons (mVar 0) mNil))))
def p_sum_of : GM := mDef 1 1 b_p_sum_of
def b_p_has : SM := (mRet (mIte (mTest (mOp neM (mOp andM (mVar 0) (mVar 1)) (mC (.int 0)))) (mC (.int 1)) (mC (.int 0))))
def p_has : GM := mDef 2 2 b_p_has
def b_p_length : SM := (mSeq (mSet 1 (mOp ixM (mVar 0) (mC (.int 4))))
  (mRet (mOp addM (mOp addM (mCB lenG (mCons (mOp ixM (mVar 0) (mC (.int 7))) mNil)) (mCB p_has (mCons (mVar 1) (mCons (mC (.int 2)) mNil)))) (mCB p_has (mCons (mVar 1) (mCons (mC (.int 1)) mNil))))))
def p_length : GM := mDef 1 2 b_p_length
def b_p_byte_of_head : SM := (mRet (mOp mulM (mC (.int 16)) (mOp divM (mVar 0) (mC (.int 4)))))
def p_byte_of_head : GM := mDef 1 1 b_p_byte_of_head
def b_p_two_bytes : SM := (mRet (mLst (mCons (mOp modM (mOp divM (mVar 0) (mC (.int 256))) (mC (.int 256))) (mCons (mOp modM (mVar 0) (mC (.int 256))) mNil))))
def p_two_bytes : GM := mDef 1 1 b_p_two_bytes
def b_p_four_bytes : SM := (mRet (mOp addM (mCB p_two_bytes (mCons (mOp divM (mVar 0) (mC (.int 65536))) mNil)) (mCB p_two_bytes (mCons (mVar 0) mNil))))
def p_four_bytes : GM := mDef 1 1 b_p_four_bytes
def b_p_bytes_ahead_of_sum : SM := (mSeq (mSet 1 (mOp addM (mCB p_two_bytes (mCons (mOp ixM (mVar 0) (mC (.int 0))) mNil)) (mCB p_two_bytes (mCons (mOp ixM (mVar 0) (mC (.int 1))) mNil))))
  (mSeq (mSet 2 (mOp addM (mCB p_four_bytes (mCons (mOp ixM (mVar 0) (mC (.int 2))) mNil)) (mCB p_four_bytes (mCons (mOp ixM (mVar 0) (mC (.int 3))) mNil))))
  (mSeq (mSet 3 (mIte (mTest (mOp eqM (mOp ixM (mVar 0) (mC (.int 6))) (mC (.int 0)))) (mC (.int 20)) (mC (.int 24))))
  (mRet (mOp addM (mOp addM (mOp addM (mVar 1) (mVar 2)) (mLst (mCons (mCB p_byte_of_head (mCons (mVar 3) mNil)) (mCons (mOp ixM (mVar 0) (mC (.int 4))) mNil)))) (mCB p_two_bytes (mCons (mOp ixM (mVar 0) (mC (.int 5))) mNil)))))))
def p_bytes_ahead_of_sum : GM := mDef 1 4 b_p_bytes_ahead_of_sum
def b_p_bytes_of_most : SM := (mRet (mIte (mTest (mOp eqM (mVar 0) (mC (.int 0)))) (mLst mNil) (mOp addM (mLst (mCons (mC (.int 2)) (mCons (mC (.int 4)) mNil))) (mCB p_two_bytes (mCons (mVar 0) mNil)))))
def p_bytes_of_most : GM := mDef 1 1 b_p_bytes_of_most
def b_p_put : SM := (mSeq (mSet 1 (mCB p_bytes_ahead_of_sum (mCons (mVar 0) mNil)))
  (mSeq (mSet 2 (mOp addM (mOp addM (mLst (mCons (mC (.int 0)) (mCons (mC (.int 0)) mNil))) (mCB p_bytes_of_most (mCons (mOp ixM (mVar 0) (mC (.int 6))) mNil))) (mCB listG (mCons (mOp ixM (mVar 0) (mC (.int 7))) mNil))))
  (mRet (mOp addM (mOp addM (mVar 1) (mCB p_two_bytes (mCons (mCB p_sum_of (mCons (mOp addM (mOp addM (mVar 1) (mLst (mCons (mC (.int 0)) (mCons (mC (.int 0)) mNil)))) (mVar 2)) mNil)) mNil))) (mVar 2)))))
def p_put : GM := mDef 1 3 b_p_put
def b_p_head_of : SM := (mRet (mOp mulM (mOp divM (mOp ixM (mVar 0) (mC (.int 12))) (mC (.int 16))) (mC (.int 4))))
def p_head_of : GM := mDef 1 1 b_p_head_of
def b_p_two_at : SM := (mRet (mOp addM (mOp mulM (mC (.int 256)) (mOp ixM (mVar 0) (mVar 1))) (mOp ixM (mVar 0) (mOp addM (mVar 1) (mC (.int 1))))))
def p_two_at : GM := mDef 2 2 b_p_two_at
def b_p_is_right_long_head : SM := (mRet (mAndV (mOp eqM (mCB p_has (mCons (mOp ixM (mVar 0) (mC (.int 13))) (mCons (mC (.int 2)) mNil))) (mC (.int 1))) (mAndV (mOp eqM (mOp ixM (mVar 0) (mC (.int 20))) (mC (.int 2))) (mAndV (mOp eqM (mOp ixM (mVar 0) (mC (.int 21))) (mC (.int 4))) (mOp geM (mCB p_two_at (mCons (mVar 0) (mCons (mC (.int 22)) mNil))) (mC (.int 4)))))))
def p_is_right_long_head : GM := mDef 1 1 b_p_is_right_long_head
def b_p_is_right : SM := (mRet (mAndV (mOp geM (mCB lenG (mCons (mVar 0) mNil)) (mC (.int 20))) (mAndV (mOp inM (mOp ixM (mVar 0) (mC (.int 12))) (mTup (mCons (mCB p_byte_of_head (mCons (mC (.int 20)) mNil)) (mCons (mCB p_byte_of_head (mCons (mC (.int 24)) mNil)) mNil)))) (mAndV (mOp leM (mOp ixM (mVar 0) (mC (.int 13))) (mC (.int 31))) (mAndV (mChain leM leM (mC (.int 0)) (mOp subM (mCB lenG (mCons (mVar 0) mNil)) (mCB p_head_of (mCons (mVar 0) mNil))) (mC (.int 16))) (mAndV (mOp eqM (mCB p_two_at (mCons (mVar 0) (mCons (mC (.int 18)) mNil))) (mC (.int 0))) (mAndV (mOrV (mOp eqM (mCB p_head_of (mCons (mVar 0) mNil)) (mC (.int 20))) (mCB p_is_right_long_head (mCons (mVar 0) mNil))) (mOp eqM (mCB p_folded (mCons (mVar 0) mNil)) (mC (.int 65535))))))))))
def p_is_right : GM := mDef 1 1 b_p_is_right
def b_p_four_at : SM := (mRet (mOp addM (mOp mulM (mC (.int 65536)) (mCB p_two_at (mCons (mVar 0) (mCons (mVar 1) mNil)))) (mCB p_two_at (mCons (mVar 0) (mCons (mOp addM (mVar 1) (mC (.int 2))) mNil)))))
def p_four_at : GM := mDef 2 2 b_p_four_at
def b_p_get_1 : SM := (mIf (mNot (mTru (mCB p_is_right (mCons (mVar 0) mNil)))) mBad mSkip)
def b_p_get : SM := (mSeq b_p_get_1
  (mSeq (mSet 1 (mCB p_head_of (mCons (mVar 0) mNil)))
  (mSeq (mSet 2 (mIte (mTest (mOp eqM (mVar 1) (mC (.int 24)))) (mCB p_two_at (mCons (mVar 0) (mCons (mC (.int 22)) mNil))) (mC (.int 0))))
  (mSeq (mSet 3 (mTup (mCons (mCB p_two_at (mCons (mVar 0) (mCons (mC (.int 0)) mNil))) (mCons (mCB p_two_at (mCons (mVar 0) (mCons (mC (.int 2)) mNil))) mNil))))
  (mSeq (mSet 4 (mTup (mCons (mCB p_four_at (mCons (mVar 0) (mCons (mC (.int 4)) mNil))) (mCons (mCB p_four_at (mCons (mVar 0) (mCons (mC (.int 8)) mNil))) mNil))))
  (mRet (mOp addM (mOp addM (mVar 3) (mVar 4)) (mTup (mCons (mOp ixM (mVar 0) (mC (.int 13))) (mCons (mCB p_two_at (mCons (mVar 0) (mCons (mC (.int 14)) mNil))) (mCons (mVar 2) (mCons (mCB tupleG (mCons (mSl (mVar 0) (mPart (mVar 1)) mNoPart) mNil)) mNil))))))))))))
def p_get : GM := mDef 1 5 b_p_get
def b_l_cell_1 : SM := (mIf (mTru (mVar 0)) (mRet (mOp ixM (mVar 0) (mOp modM (mVar 1) (mCB lenG (mCons (mVar 0) mNil))))) mSkip)
def b_l_cell : SM := (mSeq b_l_cell_1
  (mRet (mC (.int 0))))
def l_cell : GM := mDef 2 2 b_l_cell
def b_l_mix : SM := (mSeq (mSet 2 (mOp modM (mOp addM (mCB l_cell (mCons (mVar 0) (mCons (mVar 1) mNil))) (mOp mulM (mC (.int 104729)) (mOp addM (mVar 1) (mC (.int 1))))) (mC (.int 4294967291))))
  (mSeq (mSet 2 (mOp modM (mOp mulM (mVar 2) (mC (.int 48271))) (mC (.int 4294967279))))
  (mRet (mOp modM (mOp addM (mOp mulM (mOp divM (mVar 2) (mC (.int 64))) (mC (.int 69621))) (mVar 2)) (mC (.int 4294967231))))))
def l_mix : GM := mDef 2 3 b_l_mix
def b_l_whole : SM := (mRet (mAndV (mCB instG (mCons (mVar 0) (mCons (mC (.ty "int")) mNil))) (mNotV (mCB instG (mCons (mVar 0) (mCons (mC (.ty "bool")) mNil))))))
def l_whole : GM := mDef 1 1 b_l_whole
def b_l_wholes : SM := (mRet (mAndV (mCB instG (mCons (mVar 0) (mCons (mC (.ty "list")) mNil))) (mCB allG (mCons (mComp (mIn (mVar 0)) [] (mCB l_whole (mCons (mVar 0) mNil))) mNil))))
def l_wholes : GM := mDef 1 1 b_l_wholes
def b_l_two : SM := (mRet (mLst (mCons (mOp divM (mVar 0) (mC (.int 256))) (mCons (mOp modM (mVar 0) (mC (.int 256))) mNil))))
def l_two : GM := mDef 1 1 b_l_two
def b_l_folded_1 : SM := (mFor (mRng1 (mCons (mCB lenG (mCons (mVar 0) mNil)) mNil)) (gNm 2) (mSet 1 (mOp addM (mVar 1) (mOp mulM (mOp ixM (mVar 0) (mVar 2)) (mOp ixM (mLst (mCons (mC (.int 256)) (mCons (mC (.int 1)) mNil))) (mOp modM (mVar 2) (mC (.int 2))))))))
def b_l_folded_2 : SM := (whileL (mTest (mOp gtM (mVar 1) (mC (.int 65535)))) (mSet 1 (mOp addM (mOp modM (mVar 1) (mC (.int 65536))) (mOp divM (mVar 1) (mC (.int 65536))))) 200)
def b_l_folded : SM := (mSeq (mSet 1 (mC (.int 0)))
  (mSeq b_l_folded_1
  (mSeq b_l_folded_2
  (mRet (mVar 1)))))
def l_folded : GM := mDef 1 3 b_l_folded
def b_l_bytes_1 : SM := (mFor (mIn (mSl (mVar 0) (mPart (mC (.int 2))) (mPart (mC (.int 4))))) (gNm 2) (mSet 1 (mOp addM (mOp addM (mVar 1) (mCB l_two (mCons (mOp divM (mVar 2) (mC (.int 65536))) mNil))) (mCB l_two (mCons (mOp modM (mVar 2) (mC (.int 65536))) mNil)))))
def b_l_bytes_2 : SM := (mIf (mTest (mOp gtM (mOp ixM (mVar 0) (mC (.int 6))) (mC (.int 0)))) (mSet 1 (mOp addM (mOp addM (mVar 1) (mLst (mCons (mC (.int 2)) (mCons (mC (.int 4)) mNil)))) (mCB l_two (mCons (mOp ixM (mVar 0) (mC (.int 6))) mNil)))) mSkip)
def b_l_bytes : SM := (mSeq (mSet 1 (mOp addM (mCB l_two (mCons (mOp ixM (mVar 0) (mC (.int 0))) mNil)) (mCB l_two (mCons (mOp ixM (mVar 0) (mC (.int 1))) mNil))))
  (mSeq b_l_bytes_1
  (mSeq (mSet 1 (mOp addM (mOp addM (mOp addM (mVar 1) (mLst (mCons (mOp ixM (mLst (mCons (mC (.int 80)) (mCons (mC (.int 96)) mNil))) (mCB intG (mCons (mOp gtM (mOp ixM (mVar 0) (mC (.int 6))) (mC (.int 0))) mNil))) (mCons (mOp ixM (mVar 0) (mC (.int 4))) mNil)))) (mCB l_two (mCons (mOp ixM (mVar 0) (mC (.int 5))) mNil))) (mLst (mCons (mC (.int 0)) (mCons (mC (.int 0)) (mCons (mC (.int 0)) (mCons (mC (.int 0)) mNil)))))))
  (mSeq b_l_bytes_2
  (mSeq (mSet 1 (mOp addM (mVar 1) (mCB listG (mCons (mOp ixM (mVar 0) (mC (.int 7))) mNil))))
  (mRet (mOp addM (mOp addM (mSl (mVar 1) mNoPart (mPart (mC (.int 16)))) (mCB l_two (mCons (mOp subM (mC (.int 65535)) (mCB l_folded (mCons (mVar 1) mNil))) mNil))) (mSl (mVar 1) (mPart (mC (.int 18))) mNoPart))))))))
def l_bytes : GM := mDef 1 3 b_l_bytes
def b_l_any_1 : SM := (mIf (mTest (mOp eqM (mVar 3) (mC (.int 0)))) (mSet 3 (mOp addM (mC (.int 4)) (mOp modM (mCB l_mix (mCons (mVar 0) (mCons (mOp addM (mVar 1) (mC (.int 2))) mNil))) (mC (.int 65532))))) mSkip)
def b_l_any_2 : SM := (mIf (mAnd (mTest (mOp eqM (mOp modM (mOp divM (mVar 2) (mC (.int 2))) (mC (.int 2))) (mC (.int 1)))) (mTest (mOp gtM (mOp modM (mCB l_mix (mCons (mVar 0) (mCons (mOp addM (mVar 1) (mC (.int 1))) mNil))) (mC (.int 3))) (mC (.int 0))))) (mSeq (mSet 3 (mOp ixM (mLst (mCons (mC (.int 4)) (mCons (mC (.int 5)) (mCons (mC (.int 16)) (mCons (mC (.int 536)) (mCons (mC (.int 65535)) (mCons (mC (.int 0)) mNil))))))) (mOp modM (mCB l_mix (mCons (mVar 0) (mCons (mOp addM (mVar 1) (mC (.int 3))) mNil))) (mC (.int 6)))))
    b_l_any_1) mSkip)
def b_l_any_3 : SM := (mIf (mTest (mOp eqM (mOp modM (mVar 6) (mC (.int 3))) (mC (.int 0)))) (mSet 6 (mOp ixM (mLst (mCons (mC (.int 0)) (mCons (mC (.int 1)) (mCons (mC (.int 4294967295)) (mCons (mC (.int 4294967294)) (mCons (mC (.int 2147483648)) (mCons (mC (.int 65535)) (mCons (mC (.int 65536)) mNil)))))))) (mOp modM (mOp divM (mVar 6) (mC (.int 3))) (mC (.int 7))))) mSkip)
def b_l_any_4 : SM := (mFor (mRng1 (mCons (mC (.int 2)) mNil)) (gNm 5) (mSeq (mSet 6 (mCB l_mix (mCons (mVar 0) (mCons (mOp addM (mOp addM (mVar 1) (mC (.int 4))) (mVar 5)) mNil))))
    (mSeq b_l_any_3
    (mAppend 4 (mVar 6)))))
def b_l_any_5 : SM := (mIf (mTest (mOp eqM (mVar 8) (mC (.int 7)))) (mSet 8 (mOp modM (mCB l_mix (mCons (mVar 0) (mCons (mOp addM (mVar 1) (mC (.int 8))) mNil))) (mC (.int 17)))) mSkip)
def b_l_any_6 : SM := (mIf (mTest (mOp eqM (mOp modM (mCB l_mix (mCons (mVar 0) (mCons (mOp addM (mVar 1) (mC (.int 27))) mNil))) (mC (.int 5))) (mC (.int 0)))) (mSet 9 (mOp mulM (mTup (mCons (mC (.int 255)) mNil)) (mVar 8))) mSkip)
def b_l_any : SM := (mSeq (mSet 2 (mOp modM (mCB l_mix (mCons (mVar 0) (mCons (mVar 1) mNil))) (mC (.int 32))))
  (mSeq (mSet 3 (mC (.int 0)))
  (mSeq b_l_any_2
  (mSeq (mSetOwn 4 mNil)
  (mSeq b_l_any_4
  (mSeq (mSet 7 (mTup (mCons (mOp modM (mCB l_mix (mCons (mVar 0) (mCons (mOp addM (mVar 1) (mC (.int 6))) mNil))) (mC (.int 65536))) mNil)))
  (mSeq (mSet 7 (mOp addM (mVar 7) (mTup (mCons (mOp modM (mCB l_mix (mCons (mVar 0) (mCons (mOp addM (mVar 1) (mC (.int 7))) mNil))) (mC (.int 65536))) mNil))))
  (mSeq (mSet 8 (mOp ixM (mLst (mCons (mC (.int 0)) (mCons (mC (.int 1)) (mCons (mC (.int 15)) (mCons (mC (.int 16)) (mCons (mC (.int 7)) mNil)))))) (mOp modM (mCB l_mix (mCons (mVar 0) (mCons (mOp addM (mVar 1) (mC (.int 9))) mNil))) (mC (.int 5)))))
  (mSeq b_l_any_5
  (mSeq (mSet 9 (mCB tupleG (mCons (mComp (mRng1 (mCons (mVar 8) mNil)) [0, 1] (mOp modM (mOp divM (mCB l_mix (mCons (mVar 1) (mCons (mOp addM (mOp addM (mVar 2) (mC (.int 10))) (mVar 0)) mNil))) (mC (.int 7))) (mC (.int 256)))) mNil)))
  (mSeq b_l_any_6
  (mSeq (mSet 10 (mOp modM (mCB l_mix (mCons (mVar 0) (mCons (mOp addM (mVar 1) (mC (.int 28))) mNil))) (mC (.int 65536))))
  (mFreeze 4 (mRet (mOp addM (mVar 7) (mTup (mCons (mOp ixM (mVar 4) (mC (.int 0))) (mCons (mOp ixM (mVar 4) (mC (.int 1))) (mCons (mVar 2) (mCons (mVar 10) (mCons (mVar 3) (mCons (mVar 9) mNil))))))))))))))))))))))
def l_any : GM := mDef 2 11 b_l_any
end
end My
set_option Elab.async false
set_option linter.all false
set_option maxRecDepth 100000
set_option maxHeartbeats 4000000
namespace My
open PySem L2 L2.MM
noncomputable section
def cell (ns : List Int) (k : Int) : Int := if ns.length = 0 then 0 else ns.getD (k % (ns.length : Int)).toNat 0
def mix (ns : List Int) (k : Int) : Int :=
  ((cell ns k + 104729 * (k + 1)) % 4294967291 * 48271 % 4294967279 / 64 * 69621 + (cell ns k + 104729 * (k + 1)) % 4294967291 * 48271 % 4294967279) % 4294967231
theorem mix_in (ns : List Int) (k : Int) : 0 ≤ mix ns k ∧ mix ns k < 4294967231 := by
  unfold mix; omega
theorem atI_mod {ns : List Int} {k : Int} (h : 0 < ns.length) : atI (ns.map D.int) (k % (ns.length : Int)) = some (.int (cell ns k)) := by
  have a := Int.emod_nonneg k (show (ns.length : Int) ≠ 0 by omega)
  have b := Int.emod_lt_of_pos k (show (0 : Int) < ns.length by omega)
  have c : (k % (ns.length : Int)) = (((k % (ns.length : Int)).toNat : Nat) : Int) := by omega
  rw [c]
  refine atI_nat ?_
  have d : (k % (ns.length : Int)).toNat < ns.length := by omega
  rw [List.getElem?_map, List.getElem?_eq_getElem d]
  unfold cell
  rw [if_neg (by omega), List.getD_eq_getElem?_getD, List.getElem?_eq_getElem d]
  rfl
@[simp] theorem t_cell (ns : List Int) (k : Int) (θ : Sto) : l_cell [.scr ns, .int k] θ = .ok (.int (cell ns k)) θ := by
  by_cases h : ns.length = 0
  · have : ns = [] := List.eq_nil_of_length_eq_zero h
    subst this
    simp [l_cell, b_l_cell, b_l_cell_1, cell]
  · have h1 : ns.isEmpty = false := by cases ns with
      | nil => exact absurd rfl h
      | cons _ _ => rfl
    have h2 : 0 < ns.length := by omega
    simp [l_cell, b_l_cell, b_l_cell_1, h1, h2, atI_mod (k := k) h2]
@[simp] theorem t_mix (ns : List Int) (k : Int) (θ : Sto) : l_mix [.scr ns, .int k] θ = .ok (.int (mix ns k)) θ := by
  simp [l_mix, b_l_mix, MulB, mix]
@[simp] theorem t_whole (k : Int) (θ : Sto) : l_whole [.int k] θ = .ok (.bl true) θ := by
  simp [l_whole, b_l_whole, isT]
@[simp] theorem t_two (k : Int) (θ : Sto) : l_two [.int k] θ = .ok (il [k / 256, k % 256]) θ := by
  simp [l_two, b_l_two]
theorem bls_rep' (n : Nat) : blsD (List.replicate n (D.bl true)) = some (List.replicate n true) := by
  rw [← List.map_replicate, bls_map]
theorem all_rep {n : Nat} : (List.replicate n true).all id = true := by
  induction n with
  | zero => rfl
  | succ n ih => rw [List.replicate_succ, List.all_cons, ih]; rfl
theorem map_const {α β : Type} (b : β) : ∀ l : List α, l.map (fun _ => b) = List.replicate l.length b
  | [] => rfl
  | _ :: r => by rw [List.map_cons, List.length_cons, List.replicate_succ, map_const b r]
theorem wholes_comp (ns : List Int) (ρ : List Sl) (θ : Sto) {fi : IM} {src : List Nat} (d : D) (hi : fi ρ θ = .ok (.seq d) θ) (hd : seqOf θ d = some (ns.map D.int)) (hl : ns.length ≤ 1000) :
    mComp fi src (mCB l_whole (mCons (mVar 0) mNil)) ρ θ = .ok (.lst (List.replicate ns.length (D.bl true))) θ := by
  rw [mComp_seq (fun _ => .bl true) hi hd (by simp; omega)]
  · rw [map_const]; simp
  · intro x hx
    obtain ⟨k, _, rfl⟩ := List.mem_map.mp hx
    simp
@[simp] theorem t_wholes (ns : List Int) (hl : ns.length ≤ 1000) (θ : Sto) : l_wholes [il ns] θ = .ok (.bl true) θ := by
  have := wholes_comp ns [Sl.val (il ns)] θ (fi := mIn (mVar 0)) (src := []) (il ns) (by simp) rfl hl
  simp [l_wholes, b_l_wholes, isT, this, bls_rep', all_rep]
theorem wh_step {t : TMr} {body : SM} {n : Nat} {ρ : List Sl} {θ : Sto} : whileL t body (n + 1) ρ θ = (t ρ θ).bind fun k θ => if k = true then (body ρ θ).bind (loopK (whileL t body n)) else .ok (.nx, ρ) θ := rfl
abbrev foldT : TMr := mTest (mOp gtM (mVar 1) (mC (.int 65535)))
abbrev foldB : SM := mSet 1 (mOp addM (mOp modM (mVar 1) (mC (.int 65536))) (mOp divM (mVar 1) (mC (.int 65536))))
theorem foldT_ (t : Int) (x : Sl) (r : List Sl) (θ : Sto) : foldT (x :: .val (.int t) :: r) θ = .ok (decide (65535 < t)) θ := by simp
theorem foldB_ (t : Int) (x : Sl) (r : List Sl) (θ : Sto) : foldB (x :: .val (.int t) :: r) θ = .ok (.nx, x :: .val (.int (t % 65536 + t / 65536)) :: r) θ := by simp
theorem t_foldN {t : Int} (n : Nat) (h0 : 0 ≤ t) (h1 : t < 4294967296) (x : Sl) (r : List Sl) (θ : Sto) : whileL foldT foldB (n + 3) (x :: .val (.int t) :: r) θ = .ok (.nx, x :: .val (.int (fold t)) :: r) θ := by
  rw [wh_step, foldT_, R.bind_ok]
  by_cases c1 : 65535 < t
  · have s1 := fold_step c1
    rw [if_pos (by simpa using c1), foldB_, R.bind_ok, x_loop_nx]
    have hu : t % 65536 + t / 65536 ≤ 131070 := by omega
    generalize t % 65536 + t / 65536 = u at s1 hu
    rw [wh_step, foldT_, R.bind_ok]
    by_cases c2 : 65535 < u
    · have s2 := fold_step c2
      rw [if_pos (by simpa using c2), foldB_, R.bind_ok, x_loop_nx]
      have hv : u % 65536 + u / 65536 ≤ 65535 := by omega
      generalize u % 65536 + u / 65536 = v at s2 hv
      rw [wh_step, foldT_, R.bind_ok, if_neg (by simp; omega), ← s1.1, ← s2.1, fold_small s2.2.1 hv]
    · rw [if_neg (by simpa using c2), ← s1.1, fold_small s1.2.1 (by omega)]
  · rw [if_neg (by simpa using c1), fold_small h0 (by omega)]
theorem t_fold200 {t : Int} (h0 : 0 ≤ t) (h1 : t < 4294967296) (x : Sl) (r : List Sl) (θ : Sto) : whileL (mTest (mOp gtM (mVar 1) (mC (.int 65535)))) (mSet 1 (mOp addM (mOp modM (mVar 1) (mC (.int 65536))) (mOp divM (mVar 1) (mC (.int 65536))))) 200 (x :: .val (.int t) :: r) θ = .ok (.nx, x :: .val (.int (fold t)) :: r) θ := t_foldN 197 h0 h1 x r θ
def Byt (ns : List Int) : Prop := (∀ z ∈ ns, 0 ≤ z ∧ z ≤ 255) ∧ ns.length ≤ 1000
theorem wsum_lt : ∀ {ns : List Int} {m : Nat}, (∀ z ∈ ns, 0 ≤ z ∧ z ≤ 255) → ns.length ≤ 2 * m → wsum ns ≤ 65535 * m
  | [], m, _, _ => by simp [wsum]; omega
  | [a], m, h, hl => by
    have := h a (by simp)
    simp [wsum] at hl ⊢
    omega
  | a :: b :: r, m, h, hl => by
    have h1 := h a (by simp)
    have h2 := h b (by simp)
    obtain ⟨m, rfl⟩ : ∃ k, m = k + 1 := ⟨m - 1, by simp at hl; omega⟩
    have := wsum_lt (ns := r) (m := m) (fun z hz => h z (by simp [hz])) (by simp at hl; omega)
    simp [wsum]
    omega
theorem Byt.sum {ns : List Int} (h : Byt ns) : 0 ≤ wsum ns ∧ wsum ns < 4294967296 := by
  refine ⟨wsum_nn fun z hz => (h.1 z hz).1, ?_⟩
  have := wsum_lt (m := 500) h.1 (by have := h.2; omega)
  omega
theorem t_folded {ns : List Int} (h : Byt ns) (θ : Sto) : p_folded [il ns] θ = .ok (.int (fold (wsum ns))) θ := by
  have l1 := evens_len ns
  have l2 := odds_len ns
  have l3 := h.2
  have hs := h.sum
  have e := wsum_eq ns
  simp [p_folded, b_p_folded, b_p_folded_1, pickL_map, MulB, show (evens ns).length ≤ 100000 by omega, show (odds ns).length ≤ 100000 by omega, e]
  rw [t_fold200 hs.1 hs.2]
  simp
theorem t_sum_of {ns : List Int} (h : Byt ns) (θ : Sto) : p_sum_of [il ns] θ = .ok (.int (65535 - fold (wsum ns))) θ := by
  simp [p_sum_of, b_p_sum_of, t_folded h]
theorem t_lfolded {ns : List Int} (h : Byt ns) (θ : Sto) : l_folded [il ns] θ = .ok (.int (fold (wsum ns))) θ := by
  have hs := h.sum
  have l3 := h.2
  let st : Nat → List Sl := fun i => [.val (il ns), .val (.int (wpre ns i)), if i = 0 then .no else .val (.int ((i : Int) - 1))]
  have loop := for_rng (θ := θ) (lo := 0) (n := ns.length) (tg := gNm 2) (body := mSet 1 (mOp addM (mVar 1) (mOp mulM (mOp ixM (mVar 0) (mVar 2)) (mOp ixM (mLst (mCons (mC (.int 256)) (mCons (mC (.int 1)) mNil))) (mOp modM (mVar 2) (mC (.int 2))))))) st ?_ (fun i hi => ⟨_, rfl⟩) rfl
  · have b1 : (ns.length : Int) ≤ 1000000 := by omega
    have b2 : -1000000 ≤ (ns.length : Int) := by omega
    have b3 : ns.length ≤ 1000000 := by omega
    have l0 : st 0 = [.val (il ns), .val (.int 0), .no] := rfl
    rw [l0] at loop
    simp [l_folded, b_l_folded, b_l_folded_1, b_l_folded_2, mFor, b1, b2, b3]
    simp at loop
    rw [loop]
    simp [st]
    rw [wpre_all, t_fold200 hs.1 hs.2]
    simp
  · intro i ρ1 hi e
    have e' : ρ1 = [.val (il ns), .val (.int (wpre ns i)), .val (.int (0 + (i : Int)))] := by
      simp [st] at e
      simp [← e]
    subst e'
    have g1 : ixM (il ns) (.int (0 + (i : Int))) θ = .ok (.int (ns.getD i 0)) θ := by
      rw [il_get (by omega) (by omega)]
      simp [gt]
    have g2 : ixM (il [256, 1]) (.int ((0 + (i : Int)) % 2)) θ = .ok (.int (if i % 2 = 0 then 256 else 1)) θ := by
      rw [il_get (by omega) (by simp; omega)]
      by_cases q : i % 2 = 0
      · rw [show ((0 + (i : Int)) % 2).toNat = 0 by omega, if_pos q]; rfl
      · rw [show ((0 + (i : Int)) % 2).toNat = 1 by omega, if_neg q]; rfl
    have cm : MulB (ns.getD i 0) (if i % 2 = 0 then 256 else 1) := .inr (by split <;> decide)
    simp only [x_set, x_op, x_var, x_lst, x_cons, x_c, x_nil, List.getElem?_cons_succ, List.getElem?_cons_zero, R.bind_ok, g1]
    simp only [List.length_cons, List.length_nil, f_il2, BIG_eq, opI_int, if_pos (show (0 : Int) < 2 by decide), R.bind_ok, g2, mulM_int, if_pos cm, addM_int, if_pos (show 0 + 1 + 1 ≤ 100000 by decide)]
    simp [st, wpre]
end
end My
set_option Elab.async false
set_option linter.all false
set_option maxRecDepth 100000
set_option maxHeartbeats 4000000
namespace My
open PySem L2 L2.MM
noncomputable section
structure Seg where
  src : Int
  goal : Int
  num : Int
  ans : Int
  flags : Int
  win : Int
  most : Int
  data : List Int
def Seg.d (s : Seg) : D := .tup [.int s.src, .int s.goal, .int s.num, .int s.ans, .int s.flags, .int s.win, .int s.most, itp s.data]
structure Seg.Ok (s : Seg) : Prop where
  src : 0 ≤ s.src ∧ s.src ≤ 65535
  goal : 0 ≤ s.goal ∧ s.goal ≤ 65535
  num : 0 ≤ s.num ∧ s.num ≤ 4294967295
  ans : 0 ≤ s.ans ∧ s.ans ≤ 4294967295
  flags : 0 ≤ s.flags ∧ s.flags ≤ 31
  win : 0 ≤ s.win ∧ s.win ≤ 65535
  most : s.most = 0 ∨ (4 ≤ s.most ∧ s.most ≤ 65535 ∧ s.flags / 2 % 2 = 1)
  data : (∀ z ∈ s.data, 0 ≤ z ∧ z ≤ 255) ∧ s.data.length ≤ 16
section
variable {s : Seg} {θ : Sto}
@[simp] theorem d0 : ixM s.d (.int 0) θ = .ok (.int s.src) θ := nr rfl
@[simp] theorem d1 : ixM s.d (.int 1) θ = .ok (.int s.goal) θ := nr rfl
@[simp] theorem d2 : ixM s.d (.int 2) θ = .ok (.int s.num) θ := nr rfl
@[simp] theorem d3 : ixM s.d (.int 3) θ = .ok (.int s.ans) θ := nr rfl
@[simp] theorem d4 : ixM s.d (.int 4) θ = .ok (.int s.flags) θ := nr rfl
@[simp] theorem d5 : ixM s.d (.int 5) θ = .ok (.int s.win) θ := nr rfl
@[simp] theorem d6 : ixM s.d (.int 6) θ = .ok (.int s.most) θ := nr rfl
@[simp] theorem d7 : ixM s.d (.int 7) θ = .ok (itp s.data) θ := nr rfl
end
def two (k : Int) : List Int := [k / 256 % 256, k % 256]
def four (k : Int) : List Int := two (k / 65536) ++ two k
def hd (s : Seg) : Int := if s.most = 0 then 80 else 96
def ahead (s : Seg) : List Int := two s.src ++ two s.goal ++ (four s.num ++ four s.ans) ++ [hd s, s.flags] ++ two s.win
def most2 (m : Int) : List Int := if m = 0 then [] else [2, 4] ++ two m
def behind (s : Seg) : List Int := [0, 0] ++ most2 s.most ++ s.data
def putL (s : Seg) : List Int := ahead s ++ two (65535 - fold (wsum (ahead s ++ [0, 0] ++ behind s))) ++ behind s
@[simp] theorem t_two_bytes (k : Int) (θ : Sto) : p_two_bytes [.int k] θ = .ok (il (two k)) θ := by
  simp [p_two_bytes, b_p_two_bytes, two]
@[simp] theorem two_len (k : Int) : (two k).length = 2 := rfl
@[simp] theorem four_len (k : Int) : (four k).length = 4 := rfl
@[simp] theorem ahead_len (s : Seg) : (ahead s).length = 16 := rfl
@[simp] theorem t_four_bytes (k : Int) (θ : Sto) : p_four_bytes [.int k] θ = .ok (il (four k)) θ := by
  simp [p_four_bytes, b_p_four_bytes, four]
@[simp] theorem t_byte_of_head (k : Int) (θ : Sto) : p_byte_of_head [.int k] θ = .ok (.int (16 * (k / 4))) θ := by
  simp [p_byte_of_head, b_p_byte_of_head, MulB]
@[simp] theorem t_bytes_of_most (k : Int) (θ : Sto) : p_bytes_of_most [.int k] θ = .ok (il (most2 k)) θ := by
  by_cases h : k = 0 <;> simp [p_bytes_of_most, b_p_bytes_of_most, most2, h, il_nil]
@[simp] theorem t_ahead (s : Seg) (θ : Sto) : p_bytes_ahead_of_sum [s.d] θ = .ok (il (ahead s)) θ := by
  by_cases h : s.most = 0 <;> simp [p_bytes_ahead_of_sum, b_p_bytes_ahead_of_sum, ahead, hd, h]
theorem most2_len (m : Int) : (most2 m).length ≤ 4 := by unfold most2; split <;> simp
theorem byt_two (k : Int) : ∀ z ∈ two k, 0 ≤ z ∧ z ≤ 255 := by
  intro z hz
  simp [two] at hz
  rcases hz with rfl | rfl <;> omega
theorem byt_four (k : Int) : ∀ z ∈ four k, 0 ≤ z ∧ z ≤ 255 := by
  intro z hz
  rcases List.mem_append.mp hz with h | h
  · exact byt_two _ z h
  · exact byt_two _ z h
theorem byt_app {a b : List Int} (h1 : ∀ z ∈ a, 0 ≤ z ∧ z ≤ 255) (h2 : ∀ z ∈ b, 0 ≤ z ∧ z ≤ 255) : ∀ z ∈ a ++ b, 0 ≤ z ∧ z ≤ 255 := fun z hz => (List.mem_append.mp hz).elim (h1 z) (h2 z)
theorem byt_ahead {s : Seg} (h : 0 ≤ s.flags ∧ s.flags ≤ 255) : ∀ z ∈ ahead s, 0 ≤ z ∧ z ≤ 255 := by
  refine byt_app (byt_app (byt_app (byt_app (byt_two _) (byt_two _)) (byt_app (byt_four _) (byt_four _))) ?_) (byt_two _)
  intro z hz
  simp at hz
  rcases hz with rfl | rfl
  · unfold hd; split <;> omega
  · exact h
theorem byt_most (m : Int) : ∀ z ∈ most2 m, 0 ≤ z ∧ z ≤ 255 := by
  unfold most2
  split
  · intro z hz; simp at hz
  · refine byt_app ?_ (byt_two _)
    intro z hz
    simp at hz
    omega
theorem byt_behind {s : Seg} (h : ∀ z ∈ s.data, 0 ≤ z ∧ z ≤ 255) : ∀ z ∈ behind s, 0 ≤ z ∧ z ≤ 255 := by
  refine byt_app (byt_app ?_ (byt_most _)) h
  intro z hz
  simp at hz
  omega
theorem behind_len (s : Seg) : (behind s).length ≤ 6 + s.data.length := by
  have := most2_len s.most
  simp [behind]
  omega
structure Seg.Put (s : Seg) : Prop where
  flags : 0 ≤ s.flags ∧ s.flags ≤ 255
  data : (∀ z ∈ s.data, 0 ≤ z ∧ z ≤ 255) ∧ s.data.length ≤ 100
theorem Seg.Ok.put {s : Seg} (h : s.Ok) : s.Put := ⟨⟨h.flags.1, by have := h.flags.2; omega⟩, h.data.1, by have := h.data.2; omega⟩
theorem Seg.Put.byt {s : Seg} (h : s.Put) : Byt (ahead s ++ [0, 0] ++ behind s) := by
  refine ⟨byt_app (byt_app (byt_ahead h.flags) ?_) (byt_behind h.data.1), ?_⟩
  · intro z hz
    simp at hz
    omega
  · have := behind_len s
    have := h.data.2
    simp
    omega
theorem t_put {s : Seg} (h : s.Put) (θ : Sto) : p_put [s.d] θ = .ok (il (putL s)) θ := by
  have b := h.byt
  have l1 := most2_len s.most
  have l2 := h.data.2
  have l3 := behind_len s
  have e1 : 0 :: 0 :: (most2 s.most ++ s.data) = behind s := rfl
  have e2 := t_sum_of b θ
  simp only [List.append_assoc, List.cons_append, List.nil_append] at e2
  simp (disch := first | done | (simp; done) | omega | (simp; omega)) [p_put, b_p_put, il_addc, -il_add, e1, e2]
  simp [putL, show 18 + (behind s).length ≤ 100000 by omega]
theorem wsum_split {a b c : List Int} (ha : a.length % 2 = 0) (hb : b.length % 2 = 0) : wsum (a ++ b ++ c) = wsum a + wsum b + wsum c := by
  rw [wsum_app (by rw [List.length_append]; omega), wsum_app ha]
theorem put_fold {s : Seg} (h : s.Put) : fold (wsum (putL s)) = 65535 := by
  have b := h.byt
  have w0 := b.sum
  have e1 : wsum (putL s) = wsum (ahead s) + wsum (two (65535 - fold (wsum (ahead s ++ [0, 0] ++ behind s)))) + wsum (behind s) := wsum_split (by simp) (by simp)
  have e2 : wsum (ahead s ++ [0, 0] ++ behind s) = wsum (ahead s) + wsum [0, 0] + wsum (behind s) := wsum_split (by simp) (by simp)
  have e3 : wsum [0, 0] = 0 := by simp [wsum]
  have f := fold_in w0.1
  have e4 : wsum (two (65535 - fold (wsum (ahead s ++ [0, 0] ++ behind s)))) = 256 * ((65535 - fold (wsum (ahead s ++ [0, 0] ++ behind s))) / 256) + (65535 - fold (wsum (ahead s ++ [0, 0] ++ behind s))) % 256 := by
    have := f.2.1
    have := f.1
    simp only [wsum, two]
    omega
  have c := fold_close w0.1
  rw [e1, e4]
  rw [e3] at e2
  have : wsum (ahead s) + (256 * ((65535 - fold (wsum (ahead s ++ [0, 0] ++ behind s))) / 256) + (65535 - fold (wsum (ahead s ++ [0, 0] ++ behind s))) % 256) + wsum (behind s) = wsum (ahead s ++ [0, 0] ++ behind s) + (256 * ((65535 - fold (wsum (ahead s ++ [0, 0] ++ behind s))) / 256) + (65535 - fold (wsum (ahead s ++ [0, 0] ++ behind s))) % 256) := by omega
  rw [this]
  exact c
theorem put_byt {s : Seg} (h : s.Put) : Byt (putL s) := by
  refine ⟨byt_app (byt_app (byt_ahead h.flags) (byt_two _)) (byt_behind h.data.1), ?_⟩
  have := behind_len s
  have := h.data.2
  simp [putL]
  omega
theorem put_len {s : Seg} : (putL s).length = (if s.most = 0 then 20 else 24) + s.data.length := by
  unfold putL behind most2
  by_cases h : s.most = 0 <;> simp [h] <;> omega
theorem put_at (s : Seg) : ∃ x y, putL s = [s.src / 256 % 256, s.src % 256, s.goal / 256 % 256, s.goal % 256, s.num / 65536 / 256 % 256, s.num / 65536 % 256, s.num / 256 % 256, s.num % 256,
    s.ans / 65536 / 256 % 256, s.ans / 65536 % 256, s.ans / 256 % 256, s.ans % 256, hd s, s.flags, s.win / 256 % 256, s.win % 256, x, y, 0, 0] ++ (most2 s.most ++ s.data) := ⟨_, _, rfl⟩
@[simp] theorem t_two_at {a : List Int} {i : Int} (h0 : 0 ≤ i) (h : i + 1 < a.length) (θ : Sto) : p_two_at [il a, .int i] θ = .ok (.int (256 * gt a i.toNat + gt a (i + 1).toNat)) θ := by
  simp [p_two_at, b_p_two_at, il_get (θ := θ) h0 (show i < a.length by omega), il_get (θ := θ) (show 0 ≤ i + 1 by omega) h, MulB]
@[simp] theorem t_four_at {a : List Int} {i : Int} (h0 : 0 ≤ i) (h : i + 3 < a.length) (θ : Sto) : p_four_at [il a, .int i] θ = .ok (.int (65536 * (256 * gt a i.toNat + gt a (i + 1).toNat) + (256 * gt a (i + 2).toNat + gt a (i + 2 + 1).toNat))) θ := by
  simp [p_four_at, b_p_four_at, t_two_at (θ := θ) h0 (show i + 1 < a.length by omega), t_two_at (θ := θ) (show 0 ≤ i + 2 by omega) (show i + 2 + 1 < a.length by omega), MulB]
@[simp] theorem t_head_of {a : List Int} (h : 12 < a.length) (θ : Sto) : p_head_of [il a] θ = .ok (.int (gt a 12 / 16 * 4)) θ := by
  have := il_get (a := a) (θ := θ) (i := 12) (by decide) (by omega)
  simp [p_head_of, b_p_head_of, this, MulB]
def bit (f k : Int) : Int := if Builtin.bitAnd f k = 0 then 0 else 1
@[simp] theorem t_has (f k : Int) (θ : Sto) : p_has [.int f, .int k] θ = .ok (.int (bit f k)) θ := by
  by_cases h : Builtin.bitAnd f k = 0 <;> simp [p_has, b_p_has, bit, h]
theorem bit_all : ∀ n : Fin 32, bit (n.val : Int) 1 = (n.val : Int) % 2 ∧ bit (n.val : Int) 2 = (n.val : Int) / 2 % 2 ∧ bit (n.val : Int) 4 = (n.val : Int) / 4 % 2 ∧ bit (n.val : Int) 8 = (n.val : Int) / 8 % 2 ∧ bit (n.val : Int) 16 = (n.val : Int) / 16 % 2 := by decide
theorem bits {f : Int} (h : 0 ≤ f ∧ f ≤ 31) : bit f 1 = f % 2 ∧ bit f 2 = f / 2 % 2 ∧ bit f 4 = f / 4 % 2 ∧ bit f 8 = f / 8 % 2 ∧ bit f 16 = f / 16 % 2 := by
  have := bit_all ⟨f.toNat, by omega⟩
  simp only at this
  rw [show ((f.toNat : Nat) : Int) = f by omega] at this
  exact this
theorem t_length (s : Seg) (θ : Sto) : p_length [s.d] θ = .ok (.int (s.data.length + bit s.flags 2 + bit s.flags 1)) θ := by
  simp [p_length, b_p_length]
def at2 (a : List Int) (i : Nat) : Int := 256 * gt a i + gt a (i + 1)
def at4 (a : List Int) (i : Nat) : Int := 65536 * at2 a i + at2 a (i + 2)
def longOk (a : List Int) : Bool := decide (bit (gt a 13) 2 = 1) && (decide (gt a 20 = 2) && (decide (gt a 21 = 4) && decide (4 ≤ at2 a 22)))
def headL (a : List Int) : Int := gt a 12 / 16 * 4
def isRight (a : List Int) : Bool := decide (20 ≤ a.length) && (decide (gt a 12 = 80 ∨ gt a 12 = 96) && (decide (gt a 13 ≤ 31) && (decide (0 ≤ (a.length : Int) - headL a ∧ (a.length : Int) - headL a ≤ 16) &&
  (decide (at2 a 18 = 0) && ((decide (headL a = 20) || longOk a) && decide (fold (wsum a) = 65535))))))
theorem t_long {a : List Int} (h : 24 ≤ a.length) (θ : Sto) : p_is_right_long_head [il a] θ = .ok (.bl (longOk a)) θ := by
  have g := fun (i : Int) (h0 : 0 ≤ i) (h1 : i < a.length) => il_get (a := a) (θ := θ) (i := i) h0 h1
  have g13 := g 13 (by decide) (by omega)
  have g20 := g 20 (by decide) (by omega)
  have g21 := g 21 (by decide) (by omega)
  have g22 := t_two_at (a := a) (i := 22) (by decide) (by omega) θ
  simp only [show (13 : Int).toNat = 13 from rfl, show (20 : Int).toNat = 20 from rfl, show (21 : Int).toNat = 21 from rfl, show (22 : Int).toNat = 22 from rfl, show (22 + 1 : Int).toNat = 23 from rfl] at g13 g20 g21 g22
  unfold longOk at2
  simp [p_is_right_long_head, b_p_is_right_long_head, g13, g20, g21, g22]
theorem inM2 (x y z : Int) (θ : Sto) : inM (.int x) (.tup [.int y, .int z]) θ = .ok (.bl (decide (x = y ∨ x = z))) θ := by
  have e : inD θ (.int x) (.tup [.int y, .int z]) = some (decide (y = x) || (decide (z = x) || false)) := rfl
  have e2 : (decide (y = x) || (decide (z = x) || false)) = decide (x = y ∨ x = z) := by
    rw [Bool.eq_iff_iff]
    simp only [Bool.or_eq_true, decide_eq_true_eq, Bool.false_eq_true, or_false]
    constructor
    · rintro (h | h)
      · exact .inl h.symm
      · exact .inr h.symm
    · rintro (h | h)
      · exact .inl h.symm
      · exact .inr h.symm
  unfold inM
  rw [e, e2]
theorem t_is_right {a : List Int} (h : Byt a) (θ : Sto) : p_is_right [il a] θ = .ok (.bl (isRight a)) θ := by
  by_cases c1 : 20 ≤ a.length
  · have g := fun (i : Int) (h0 : 0 ≤ i) (h1 : i < a.length) => il_get (a := a) (θ := θ) (i := i) h0 h1
    have g12 := g 12 (by decide) (by omega)
    have g13 := g 13 (by decide) (by omega)
    have g18 := t_two_at (a := a) (i := 18) (by decide) (by omega) θ
    have gh := t_head_of (a := a) (by omega) θ
    have gf := t_folded h θ
    have c1' : (20 : Int) ≤ a.length := by omega
    simp only [show (12 : Int).toNat = 12 from rfl, show (13 : Int).toNat = 13 from rfl, show (18 : Int).toNat = 18 from rfl, show (18 + 1 : Int).toNat = 19 from rfl] at g12 g13 g18
    by_cases c2 : gt a 12 = 80
    · rw [c2] at g12 gh
      simp [p_is_right, b_p_is_right, isRight, headL, at2, c1, c1', g12, g13, g18, gh, gf, inM2, c2] <;> rfl
    · by_cases c3 : gt a 12 = 96
      · rw [c3] at g12 gh
        by_cases c4 : 24 ≤ a.length
        · have gl := t_long c4 θ
          simp [p_is_right, b_p_is_right, isRight, headL, at2, c1, c1', g12, g13, g18, gh, gf, inM2, c3, gl] <;> rfl
        · have c5 : ¬ (24 : Int) ≤ (a.length : Int) := by omega
          simp [p_is_right, b_p_is_right, isRight, headL, at2, c1, c1', g12, g13, g18, gh, gf, inM2, c3, c5] <;> rfl
      · simp [p_is_right, b_p_is_right, isRight, headL, at2, c1, c1', g12, g13, g18, gh, gf, inM2, c2, c3]
  · have c1' : ¬ (20 : Int) ≤ a.length := by omega
    simp [p_is_right, b_p_is_right, isRight, c1, c1']
def getSeg (a : List Int) : Seg := ⟨at2 a 0, at2 a 2, at4 a 4, at4 a 8, gt a 13, at2 a 14, if headL a = 24 then at2 a 22 else 0, a.drop (headL a).toNat⟩
theorem isRight_len {a : List Int} (h : isRight a = true) : 20 ≤ a.length ∧ ((headL a = 20) ∨ (headL a = 24 ∧ 24 ≤ a.length ∧ longOk a = true)) ∧ (a.length : Int) - headL a ≤ 16 ∧ gt a 13 ≤ 31 := by
  unfold isRight at h
  simp only [Bool.and_eq_true, decide_eq_true_eq, Bool.or_eq_true] at h
  obtain ⟨h1, h2, h3, h4, h5, h6, h7⟩ := h
  refine ⟨h1, ?_, h4.2, h3⟩
  rcases h2 with h2 | h2
  · left; unfold headL; rw [h2]; rfl
  · right
    have e : headL a = 24 := by unfold headL; rw [h2]; rfl
    refine ⟨e, by have := h4.1; rw [e] at this; omega, ?_⟩
    rcases h6 with h6 | h6
    · rw [e] at h6; cases h6
    · exact h6
theorem t_get {a : List Int} (h : Byt a) (hr : isRight a = true) (θ : Sto) : p_get [il a] θ = .ok (getSeg a).d θ := by
  obtain ⟨l1, l2, l3, l4⟩ := isRight_len hr
  have ir := t_is_right h θ
  rw [hr] at ir
  have gh := t_head_of (a := a) (by omega) θ
  have g13 := il_get (a := a) (θ := θ) (i := 13) (by decide) (by omega)
  have q0 := t_two_at (a := a) (i := 0) (by decide) (by omega) θ
  have q2 := t_two_at (a := a) (i := 2) (by decide) (by omega) θ
  have q14 := t_two_at (a := a) (i := 14) (by decide) (by omega) θ
  have q4 := t_four_at (a := a) (i := 4) (by decide) (by omega) θ
  have q8 := t_four_at (a := a) (i := 8) (by decide) (by omega) θ
  simp only [show (13 : Int).toNat = 13 from rfl, show (0 : Int).toNat = 0 from rfl, show (0 + 1 : Int).toNat = 1 from rfl, show (2 : Int).toNat = 2 from rfl, show (2 + 1 : Int).toNat = 3 from rfl, show (14 : Int).toNat = 14 from rfl, show (14 + 1 : Int).toNat = 15 from rfl,
    show (4 : Int).toNat = 4 from rfl, show (4 + 1 : Int).toNat = 5 from rfl, show (4 + 2 : Int).toNat = 6 from rfl, show (4 + 2 + 1 : Int).toNat = 7 from rfl, show (8 : Int).toNat = 8 from rfl, show (8 + 1 : Int).toNat = 9 from rfl, show (8 + 2 : Int).toNat = 10 from rfl, show (8 + 2 + 1 : Int).toNat = 11 from rfl] at g13 q0 q2 q14 q4 q8
  have gh' : p_head_of [il a] θ = .ok (.int (headL a)) θ := gh
  have ps : ∀ x : Int, 0 ≤ x → cutL a (some x) none = a.drop x.toNat := fun x hx => cut_from a hx
  rcases l2 with e | ⟨e, l5, _⟩
  · simp [p_get, b_p_get, b_p_get_1, ir, gh', e, g13, q0, q2, q4, q8, q14, ps, getSeg, Seg.d, at2, at4]
  · have q22 := t_two_at (a := a) (i := 22) (by decide) (by omega) θ
    simp only [show (22 : Int).toNat = 22 from rfl, show (22 + 1 : Int).toNat = 23 from rfl] at q22
    simp [p_get, b_p_get, b_p_get_1, ir, gh', e, g13, q0, q2, q4, q8, q14, q22, ps, getSeg, Seg.d, at2, at4]
end
end My
set_option Elab.async false
set_option linter.all false
set_option maxRecDepth 100000
set_option maxHeartbeats 4000000
namespace My
open PySem L2 L2.MM
noncomputable section
theorem put_gt (s : Seg) : gt (putL s) 12 = hd s ∧ gt (putL s) 13 = s.flags ∧ at2 (putL s) 18 = 0 ∧ at2 (putL s) 0 = 256 * (s.src / 256 % 256) + s.src % 256 ∧ at2 (putL s) 2 = 256 * (s.goal / 256 % 256) + s.goal % 256 ∧
    at4 (putL s) 4 = 65536 * (256 * (s.num / 65536 / 256 % 256) + s.num / 65536 % 256) + (256 * (s.num / 256 % 256) + s.num % 256) ∧ at4 (putL s) 8 = 65536 * (256 * (s.ans / 65536 / 256 % 256) + s.ans / 65536 % 256) + (256 * (s.ans / 256 % 256) + s.ans % 256) ∧
    at2 (putL s) 14 = 256 * (s.win / 256 % 256) + s.win % 256 := by
  obtain ⟨x, y, e⟩ := put_at s
  rw [e]
  unfold at4 at2
  refine ⟨rfl, rfl, ?_, rfl, rfl, rfl, rfl, rfl⟩
  show 256 * (0 : Int) + 0 = 0
  rfl
theorem put_most (s : Seg) (h : s.most ≠ 0) : gt (putL s) 20 = 2 ∧ gt (putL s) 21 = 4 ∧ at2 (putL s) 22 = 256 * (s.most / 256 % 256) + s.most % 256 := by
  obtain ⟨x, y, e⟩ := put_at s
  have e2 : most2 s.most = [2, 4, s.most / 256 % 256, s.most % 256] := by unfold most2; rw [if_neg h]; rfl
  rw [e, e2]
  unfold at2
  exact ⟨rfl, rfl, rfl⟩
theorem put_right {s : Seg} (h : s.Ok) : isRight (putL s) = true := by
  obtain ⟨g12, g13, g18, _⟩ := put_gt s
  have hl := put_len (s := s)
  have hd' := h.data.2
  have hf := put_fold h.put
  have hw := h.flags
  unfold isRight longOk headL
  simp only [Bool.and_eq_true, decide_eq_true_eq, Bool.or_eq_true]
  rw [g12, g13, g18, hf, hl]
  by_cases m : s.most = 0
  · have e : hd s = 80 := if_pos m
    rw [e, if_pos m]
    simp
    omega
  · have e : hd s = 96 := if_neg m
    obtain ⟨p1, p2, p3⟩ := put_most s m
    have hm : 4 ≤ s.most ∧ s.most ≤ 65535 ∧ s.flags / 2 % 2 = 1 := h.most.resolve_left m
    have hb := (bits h.flags).2.1
    rw [e, if_neg m, p1, p2, p3, hb]
    simp
    omega
theorem drop_put (s : Seg) : (putL s).drop (if s.most = 0 then 20 else 24) = s.data := by
  obtain ⟨x, y, e⟩ := put_at s
  rw [e]
  by_cases m : s.most = 0
  · rw [if_pos m]
    simp [most2, m]
  · rw [if_neg m]
    simp [most2, m, two]
theorem get_put {s : Seg} (h : s.Ok) : getSeg (putL s) = s := by
  obtain ⟨g12, g13, g18, g0, g2, g4, g8, g14⟩ := put_gt s
  have e0 := drop_put s
  obtain ⟨⟨a1, a2⟩, ⟨b1, b2⟩, ⟨c1, c2⟩, ⟨d1, d2⟩, _, ⟨f1, f2⟩, hm, _⟩ := h
  unfold getSeg headL
  rw [g12, g13, g0, g2, g4, g8, g14]
  obtain ⟨src, goal, num, ans, flags, win, most, data⟩ := s
  simp only at *
  by_cases m : most = 0
  · subst m
    have e : hd ⟨src, goal, num, ans, flags, win, 0, data⟩ = 80 := rfl
    rw [e]
    simp only [if_true] at e0
    simp [e0]
    omega
  · have e : hd ⟨src, goal, num, ans, flags, win, most, data⟩ = 96 := if_neg m
    obtain ⟨_, _, p3⟩ := put_most ⟨src, goal, num, ans, flags, win, most, data⟩ m
    simp only at p3
    rw [e, p3]
    rw [if_neg m] at e0
    simp [e0]
    have := hm.resolve_left m
    omega
@[simp] theorem d_sl24 {s : Seg} {θ : Sto} : sliceD θ s.d (some 2) (some 4) = some (.tup [.int s.num, .int s.ans]) := nr rfl
theorem two_small {k : Int} (h0 : 0 ≤ k) (h : k ≤ 65535) : [k / 256, k % 256] = two k := by
  unfold two
  rw [show k / 256 % 256 = k / 256 by omega]
theorem four_small {k : Int} (h0 : 0 ≤ k) (h : k ≤ 4294967295) : [k / 65536 / 256, k / 65536 % 256, k % 65536 / 256, k % 256] = four k := by
  unfold four two
  rw [show k / 65536 / 256 % 256 = k / 65536 / 256 by omega, show k % 65536 / 256 = k / 256 % 256 by omega]
  rfl
def preL (s : Seg) : List Int := [s.src / 256, s.src % 256, s.goal / 256, s.goal % 256, s.num / 65536 / 256, s.num / 65536 % 256, s.num % 65536 / 256, s.num % 256, s.ans / 65536 / 256, s.ans / 65536 % 256, s.ans % 65536 / 256, s.ans % 256,
  hd s, s.flags, s.win / 256, s.win % 256, 0, 0, 0, 0] ++ ((if s.most = 0 then [] else [2, 4, s.most / 256, s.most % 256]) ++ s.data)
theorem pre_eq {s : Seg} (h : s.Ok) : preL s = ahead s ++ [0, 0] ++ behind s := by
  obtain ⟨⟨a1, a2⟩, ⟨b1, b2⟩, ⟨c1, c2⟩, ⟨d1, d2⟩, ⟨f1, f2⟩, ⟨w1, w2⟩, hm, hd1, hd2⟩ := id h
  have e1 := two_small a1 a2
  have e2 := two_small b1 b2
  have e3 := four_small c1 c2
  have e4 := four_small d1 d2
  have e5 := two_small w1 w2
  have e6 : (if s.most = 0 then [] else [2, 4, s.most / 256, s.most % 256]) = most2 s.most := by
    unfold most2
    by_cases m : s.most = 0
    · rw [if_pos m, if_pos m]
    · rw [if_neg m, if_neg m]
      have := hm.resolve_left m
      rw [← two_small (k := s.most) (by omega) (by omega)]
      rfl
  unfold preL ahead behind
  rw [e6, ← e1, ← e2, ← e3, ← e4, ← e5]
  rfl
theorem pre_fin {s : Seg} (h : s.Ok) : (preL s).take 16 ++ two (65535 - fold (wsum (preL s))) ++ (preL s).drop 18 = putL s := by
  rw [pre_eq h]
  have e1 : (ahead s ++ [0, 0] ++ behind s).take 16 = ahead s := by
    rw [List.append_assoc, List.take_append_of_le_length (by simp), List.take_of_length_le (by simp)]
  have e2 : (ahead s ++ [0, 0] ++ behind s).drop 18 = behind s := by
    have : (ahead s ++ [0, 0]).length = 18 := by simp
    rw [← this, List.drop_left]
  rw [e1, e2]
  rfl
theorem t_lbytes_tail {s : Seg} (h : s.Ok) (θ : Sto) (x y : Sl) : mRet (mOp addM (mOp addM (mSl (mVar 1) mNoPart (mPart (mC (.int 16)))) (mCB l_two (mCons (mOp subM (mC (.int 65535)) (mCB l_folded (mCons (mVar 1) mNil))) mNil))) (mSl (mVar 1) (mPart (mC (.int 18))) mNoPart)) [x, .val (il (preL s)), y] θ
    = .ok (.rt (il (putL s)), [x, .val (il (preL s)), y]) θ := by
  have pe := pre_eq h
  have bp := h.put.byt
  rw [← pe] at bp
  have lf := t_lfolded bp θ
  have hs := fold_in bp.sum.1
  have hl : (preL s).length ≤ 100 := by
    have := behind_len s
    have := h.data.2
    rw [pe]
    simp
    omega
  have fin := pre_fin h
  have tw : [(65535 - fold (wsum (preL s))) / 256, (65535 - fold (wsum (preL s))) % 256] = two (65535 - fold (wsum (preL s))) := two_small (by omega) (by omega)
  have k1 : cutL (preL s) none (some 16) = (preL s).take 16 := cut_to _ (by decide)
  have k2 : cutL (preL s) (some 18) none = (preL s).drop 18 := cut_from _ (by decide)
  have fs : addM (il ((preL s).take 16)) (il (two (65535 - fold (wsum (preL s))))) θ = .ok (il ((preL s).take 16 ++ two (65535 - fold (wsum (preL s))))) θ := il_addc (by simp; omega)
  have fs2 : addM (il ((preL s).take 16 ++ two (65535 - fold (wsum (preL s))))) (il ((preL s).drop 18)) θ = .ok (il (putL s)) θ := by
    rw [il_addc (by simp; omega), fin]
  simp only [x_ret, x_op, x_sl, x_var, x_CB, x_cons, x_nil, x_noPart, x_part, x_c, R.bind_ok, List.getElem?_cons_succ, List.getElem?_cons_zero, il_sl, k1, k2, lf, opI_int, if_true, t_two, tw, fs, fs2]
theorem t_lbytes {s : Seg} (h : s.Ok) (θ : Sto) : l_bytes [s.d] θ = .ok (il (putL s)) θ := by
  have tail := t_lbytes_tail h θ
  have dl := h.data.2
  by_cases m : s.most = 0
  · have g : ixM (il [80, 96]) (.int 0) θ = .ok (.int 80) θ := rfl
    have e0 : hd s = 80 := if_pos m
    have pl : [s.src / 256, s.src % 256, s.goal / 256, s.goal % 256, s.num / 65536 / 256, s.num / 65536 % 256, s.num % 65536 / 256, s.num % 256, s.ans / 65536 / 256, s.ans / 65536 % 256, s.ans % 65536 / 256, s.ans % 256,
      80, s.flags, s.win / 256, s.win % 256, 0, 0, 0, 0] ++ s.data = preL s := by unfold preL; rw [if_pos m, e0]; rfl
    simp only [List.cons_append, List.nil_append] at pl
    simp [l_bytes, b_l_bytes, b_l_bytes_1, b_l_bytes_2, mFor, forL, m, g, pl, -x_ret, tail, show s.data.length + 20 ≤ 100000 by omega, show 20 + s.data.length ≤ 100000 by omega]
  · have g : ixM (il [80, 96]) (.int 1) θ = .ok (.int 96) θ := rfl
    have e0 : hd s = 96 := if_neg m
    have mg : (0 : Int) < s.most := by have := h.most.resolve_left m; omega
    have pl : [s.src / 256, s.src % 256, s.goal / 256, s.goal % 256, s.num / 65536 / 256, s.num / 65536 % 256, s.num % 65536 / 256, s.num % 256, s.ans / 65536 / 256, s.ans / 65536 % 256, s.ans % 65536 / 256, s.ans % 256,
      96, s.flags, s.win / 256, s.win % 256, 0, 0, 0, 0, 2, 4, s.most / 256, s.most % 256] ++ s.data = preL s := by unfold preL; rw [if_neg m, e0]; rfl
    simp only [List.cons_append, List.nil_append] at pl
    simp [l_bytes, b_l_bytes, b_l_bytes_1, b_l_bytes_2, mFor, forL, mg, g, pl, -x_ret, tail, show s.data.length + 24 ≤ 100000 by omega, show 24 + s.data.length ≤ 100000 by omega]
def mostOf (ns : List Int) (b : Int) : Int := if mix ns b % 32 / 2 % 2 = 1 ∧ 0 < mix ns (b + 1) % 3 then (if gt [4, 5, 16, 536, 65535, 0] (mix ns (b + 3) % 6).toNat = 0 then 4 + mix ns (b + 2) % 65532 else gt [4, 5, 16, 536, 65535, 0] (mix ns (b + 3) % 6).toNat) else 0
def numOf (n : Int) : Int := if n % 3 = 0 then gt [0, 1, 4294967295, 4294967294, 2147483648, 65535, 65536] (n / 3 % 7).toNat else n
def sizeOf' (ns : List Int) (b : Int) : Int := if gt [0, 1, 15, 16, 7] (mix ns (b + 9) % 5).toNat = 7 then mix ns (b + 8) % 17 else gt [0, 1, 15, 16, 7] (mix ns (b + 9) % 5).toNat
def dataOf (ns : List Int) (b : Int) : List Int := if mix ns (b + 27) % 5 = 0 then List.replicate (sizeOf' ns b).toNat 255 else (List.range (sizeOf' ns b).toNat).map fun (k : Nat) => mix ns (b + 10 + (k : Int)) / 7 % 256
def anySeg (ns : List Int) (b : Int) : Seg := ⟨mix ns (b + 6) % 65536, mix ns (b + 7) % 65536, numOf (mix ns (b + 4)), numOf (mix ns (b + 5)), mix ns b % 32, mix ns (b + 28) % 65536, mostOf ns b, dataOf ns b⟩
theorem lt_cases5 {P : Nat → Prop} {n : Nat} (h : n < 5) (h0 : P 0) (h1 : P 1) (h2 : P 2) (h3 : P 3) (h4 : P 4) : P n := by
  match n, h with
  | 0, _ => exact h0
  | 1, _ => exact h1
  | 2, _ => exact h2
  | 3, _ => exact h3
  | 4, _ => exact h4
theorem lt_cases7 {P : Nat → Prop} {n : Nat} (h : n < 7) (h0 : P 0) (h1 : P 1) (h2 : P 2) (h3 : P 3) (h4 : P 4) (h5 : P 5) (h6 : P 6) : P n := by
  match n, h with
  | 0, _ => exact h0
  | 1, _ => exact h1
  | 2, _ => exact h2
  | 3, _ => exact h3
  | 4, _ => exact h4
  | 5, _ => exact h5
  | 6, _ => exact h6
theorem size_in (ns : List Int) (b : Int) : 0 ≤ sizeOf' ns b ∧ sizeOf' ns b ≤ 16 := by
  unfold sizeOf'
  have h : (mix ns (b + 9) % 5).toNat < 5 := by omega
  have : 0 ≤ gt [0, 1, 15, 16, 7] (mix ns (b + 9) % 5).toNat ∧ gt [0, 1, 15, 16, 7] (mix ns (b + 9) % 5).toNat ≤ 16 := lt_cases5 (P := fun n => 0 ≤ gt [0, 1, 15, 16, 7] n ∧ gt [0, 1, 15, 16, 7] n ≤ 16) h (by decide) (by decide) (by decide) (by decide) (by decide)
  split
  · omega
  · exact this
theorem any_ok (ns : List Int) (b : Int) : (anySeg ns b).Ok := by
  have nm : ∀ n, 0 ≤ n ∧ n < 4294967231 → 0 ≤ numOf n ∧ numOf n ≤ 4294967295 := fun n hn => by
    unfold numOf
    split
    · have h : (n / 3 % 7).toNat < 7 := by omega
      exact lt_cases7 (P := fun n => 0 ≤ gt [0, 1, 4294967295, 4294967294, 2147483648, 65535, 65536] n ∧ gt [0, 1, 4294967295, 4294967294, 2147483648, 65535, 65536] n ≤ 4294967295) h (by decide) (by decide) (by decide) (by decide) (by decide) (by decide) (by decide)
    · omega
  have sz := size_in ns b
  refine ⟨by simp only [anySeg]; omega, by simp only [anySeg]; omega, nm _ (mix_in _ _), nm _ (mix_in _ _), by simp only [anySeg]; omega, by simp only [anySeg]; omega, ?_, ?_, ?_⟩
  · show mostOf ns b = 0 ∨ (4 ≤ mostOf ns b ∧ mostOf ns b ≤ 65535 ∧ mix ns b % 32 / 2 % 2 = 1)
    unfold mostOf
    split
    · rename_i c
      right
      have h : (mix ns (b + 3) % 6).toNat < 7 := by omega
      have : gt [4, 5, 16, 536, 65535, 0] (mix ns (b + 3) % 6).toNat = 0 ∨ (4 ≤ gt [4, 5, 16, 536, 65535, 0] (mix ns (b + 3) % 6).toNat ∧ gt [4, 5, 16, 536, 65535, 0] (mix ns (b + 3) % 6).toNat ≤ 65535) :=
        lt_cases7 (P := fun n => gt [4, 5, 16, 536, 65535, 0] n = 0 ∨ (4 ≤ gt [4, 5, 16, 536, 65535, 0] n ∧ gt [4, 5, 16, 536, 65535, 0] n ≤ 65535)) h (by decide) (by decide) (by decide) (by decide) (by decide) (by decide) (by decide)
      split
      · exact ⟨by omega, by omega, c.1⟩
      · rename_i c2
        have := this.resolve_left c2
        exact ⟨this.1, this.2, c.1⟩
    · exact .inl rfl
  · show ∀ z ∈ dataOf ns b, 0 ≤ z ∧ z ≤ 255
    unfold dataOf
    split
    · intro z hz
      have := List.eq_of_mem_replicate hz
      omega
    · intro z hz
      obtain ⟨k, _, rfl⟩ := List.mem_map.mp hz
      omega
  · show (dataOf ns b).length ≤ 16
    unfold dataOf
    split <;> simp <;> omega
theorem t_any_most (ns : List Int) (b : Int) (r : List Sl) (θ : Sto) : b_l_any_2 (.val (.scr ns) :: .val (.int b) :: .val (.int (mix ns b % 32)) :: .val (.int 0) :: r) θ = .ok (.nx, .val (.scr ns) :: .val (.int b) :: .val (.int (mix ns b % 32)) :: .val (.int (mostOf ns b)) :: r) θ := by
  have g := il_get (a := [4, 5, 16, 536, 65535, 0]) (i := mix ns (b + 3) % 6) (θ := θ) (by omega) (by simp; omega)
  unfold mostOf
  generalize gt [4, 5, 16, 536, 65535, 0] (mix ns (b + 3) % 6).toNat = m at *
  by_cases c1 : mix ns b % 32 / 2 % 2 = 1
  · by_cases c2 : 0 < mix ns (b + 1) % 3
    · by_cases c3 : m = 0
      · simp [b_l_any_2, b_l_any_1, c1, c2, c3, g]
      · simp [b_l_any_2, b_l_any_1, c1, c2, c3, g]
    · simp [b_l_any_2, b_l_any_1, c1, c2]
  · simp [b_l_any_2, b_l_any_1, c1]
theorem t_any_num (n : Int) (a0 a1 a2 a3 a4 a5 : Sl) (r : List Sl) (θ : Sto) : b_l_any_3 (a0 :: a1 :: a2 :: a3 :: a4 :: a5 :: .val (.int n) :: r) θ = .ok (.nx, a0 :: a1 :: a2 :: a3 :: a4 :: a5 :: .val (.int (numOf n)) :: r) θ := by
  have g := il_get (a := [0, 1, 4294967295, 4294967294, 2147483648, 65535, 65536]) (i := n / 3 % 7) (θ := θ) (by omega) (by simp; omega)
  unfold numOf
  generalize gt [0, 1, 4294967295, 4294967294, 2147483648, 65535, 65536] (n / 3 % 7).toNat = m at *
  by_cases c : n % 3 = 0
  · simp [b_l_any_3, c, g]
  · simp [b_l_any_3, c]
theorem t_any_nums (ns : List Int) (b : Int) (a2 a3 : Sl) (r : List Sl) (θ : Sto) : b_l_any_4 (.val (.scr ns) :: .val (.int b) :: a2 :: a3 :: .own [] :: .no :: .no :: r) θ =
    .ok (.nx, .val (.scr ns) :: .val (.int b) :: a2 :: a3 :: .own [.int (numOf (mix ns (b + 4))), .int (numOf (mix ns (b + 5)))] :: .val (.int 1) :: .val (.int (numOf (mix ns (b + 5)))) :: r) θ := by
  simp [b_l_any_4, mFor, forL, t_any_num, List.range_succ, show b + 4 + 1 = b + 5 by omega]
theorem t_any_size (ns : List Int) (b : Int) (a2 a3 a4 a5 a6 a7 : Sl) (r : List Sl) (θ : Sto) : b_l_any_5 (.val (.scr ns) :: .val (.int b) :: a2 :: a3 :: a4 :: a5 :: a6 :: a7 :: .val (.int (gt [0, 1, 15, 16, 7] (mix ns (b + 9) % 5).toNat)) :: r) θ =
    .ok (.nx, .val (.scr ns) :: .val (.int b) :: a2 :: a3 :: a4 :: a5 :: a6 :: a7 :: .val (.int (sizeOf' ns b)) :: r) θ := by
  unfold sizeOf'
  generalize gt [0, 1, 15, 16, 7] (mix ns (b + 9) % 5).toNat = m at *
  by_cases c : m = 7
  · simp [b_l_any_5, c]
  · simp [b_l_any_5, c]
theorem rep_flat (n : Nat) (x : Int) : (List.replicate n [x]).flatten = List.replicate n x := by
  induction n with
  | zero => rfl
  | succ n ih => rw [List.replicate_succ, List.flatten_cons, ih]; rfl
theorem t_any_data (ns : List Int) (b : Int) (a2 a3 a4 a5 a6 a7 : Sl) (r : List Sl) (θ : Sto) : b_l_any_6 (.val (.scr ns) :: .val (.int b) :: a2 :: a3 :: a4 :: a5 :: a6 :: a7 :: .val (.int (sizeOf' ns b)) :: .val (itp ((List.range (sizeOf' ns b).toNat).map fun (k : Nat) => mix ns (b + 10 + (k : Int)) / 7 % 256)) :: r) θ =
    .ok (.nx, .val (.scr ns) :: .val (.int b) :: a2 :: a3 :: a4 :: a5 :: a6 :: a7 :: .val (.int (sizeOf' ns b)) :: .val (itp (dataOf ns b)) :: r) θ := by
  have sz := size_in ns b
  have f1 : D.tup [.int 255] = itp [255] := rfl
  unfold dataOf
  by_cases c : mix ns (b + 27) % 5 = 0
  · simp [b_l_any_6, c, f1, rep_flat, show sizeOf' ns b < 1000 by omega, show sizeOf' ns b ≤ 1000 by omega, sz.1]
  · simp [b_l_any_6, c]
theorem t_any (ns : List Int) (b : Int) (θ : Sto) : l_any [.scr ns, .int b] θ = .ok (anySeg ns b).d θ := by
  have sz := size_in ns b
  have g := il_get (a := [0, 1, 15, 16, 7]) (i := mix ns (b + 9) % 5) (θ := θ) (by omega) (by simp; omega)
  have cp := fun ρ (h0 : ρ[0]? = some (Sl.val (D.scr ns))) (h1 : ρ[1]? = some (Sl.val (D.int b))) (h2 : ρ[8]? = some (Sl.val (D.int (sizeOf' ns b)))) => mComp_rng (ρ := ρ) (θ := θ) (fi := mRng1 (mCons (mVar 8) mNil)) (src := [0, 1])
    (elt := mOp modM (mOp divM (mCB l_mix (mCons (mVar 1) (mCons (mOp addM (mOp addM (mVar 2) (mC (.int 10))) (mVar 0)) mNil))) (mC (.int 7))) (mC (.int 256))) (lo := 0) (n := (sizeOf' ns b).toNat) (θ' := θ) (fun k => .int (mix ns (b + 10 + k) / 7 % 256))
    (by simp [h2]; omega) (by simp; omega) (by intro i hi; simp [h0, h1])
  have e : (fun (i : Nat) => D.int (mix ns (b + 10 + (0 + (i : Int))) / 7 % 256)) = D.int ∘ fun (i : Nat) => mix ns (b + 10 + (i : Int)) / 7 % 256 := by
    funext i
    simp
  simp [l_any, b_l_any, t_any_most, t_any_nums, g, t_any_size]
  rw [cp _ rfl rfl rfl]
  rw [show (List.range (sizeOf' ns b).toNat).map (fun (i : Nat) => D.int (mix ns (b + 10 + (0 + (i : Int))) / 7 % 256)) = ((List.range (sizeOf' ns b).toNat).map fun (i : Nat) => mix ns (b + 10 + (i : Int)) / 7 % 256).map D.int by rw [e, List.map_map]]
  simp only [f_il0]
  simp [t_any_data, anySeg, Seg.d]
end
end My
set_option Elab.async false
set_option linter.all false
set_option maxRecDepth 100000
set_option maxHeartbeats 4000000
namespace My
open PySem L2 L2.MM
noncomputable section
def b_p_Pile_init : SM := (mSetF ["Pile"] "row" (mVar 0) (mLst mNil))
def p_Pile_init : GM := mDef 1 1 b_p_Pile_init
def b_p_room : SM := (mRet (mOp subM (mC (.int 64)) (mCB lenG (mCons (mFld ["Pile"] "row" (mVar 0)) mNil))))
def p_room : GM := mDef 1 1 b_p_room
def b_p_plus : SM := (mRet (mOp modM (mOp addM (mVar 0) (mVar 1)) (mC (.int 4294967296))))
def p_plus : GM := mDef 2 2 b_p_plus
def b_p_offset : SM := (mRet (mOp subM (mOp modM (mOp addM (mOp subM (mVar 0) (mVar 1)) (mC (.int 2147483648))) (mC (.int 4294967296))) (mC (.int 2147483648))))
def p_offset : GM := mDef 2 2 b_p_offset
def b_p_End_init : SM := (mSeq (mSetF ["End"] "ours" (mVar 0) (mVar 1))
  (mSeq (mSetF ["End"] "theirs" (mVar 0) (mVar 2))
  (mSeq (mSetF ["End"] "state" (mVar 0) (mIte (mTru (mVar 4)) (mC (.str "syn sent")) (mC (.str "listen"))))
  (mSeq (mSetF ["End"] "error" (mVar 0) (mC (.str "")))
  (mSeq (mSetF ["End"] "first" (mVar 0) (mVar 3))
  (mSeq (mSetF ["End"] "una" (mVar 0) (mVar 3))
  (mSeq (mSetF ["End"] "nxt" (mVar 0) (mVar 3))
  (mSeq (mSetF ["End"] "rcv" (mVar 0) (mC (.int 0)))
  (mSeq (mSetF ["End"] "wnd" (mVar 0) (mC (.int 0)))
  (mSeq (mSetF ["End"] "told" (mVar 0) (mC (.int 0)))
  (mSeq (mSetF ["End"] "told_by" (mVar 0) (mC (.int 0)))
  (mSeq (mSetF ["End"] "most" (mVar 0) (mC (.int 12)))
  (mSeq (mSetF ["End"] "written" (mVar 0) (mCB (mkG "Pile" p_Pile_init) mNil))
  (mSeq (mSetF ["End"] "come" (mVar 0) (mCB (mkG "Pile" p_Pile_init) mNil))
  (mSeq (mSetF ["End"] "early" (mVar 0) mDict0)
  (mSeq (mSetF ["End"] "early_fin" (mVar 0) (mC .non))
  (mSeq (mSetF ["End"] "has_closed" (mVar 0) (mC (.bl false)))
  (mSeq (mSetF ["End"] "behind" (mVar 0) (mCB p_plus (mCons (mVar 3) (mCons (mC (.int 1)) mNil))))
  (mSeq (mSetF ["End"] "owed_reset" (mVar 0) (mC .non))
  (mSeq (mSetF ["End"] "owes_syn" (mVar 0) (mC (.bl false)))
  (mSeq (mSetF ["End"] "owes_answer" (mVar 0) (mC (.bl false)))
  (mSeq (mSetF ["End"] "probes" (mVar 0) (mC (.bl false)))
  (mSeq (mSetF ["End"] "since" (mVar 0) (mC (.int 0)))
  (mSeq (mSetF ["End"] "wait" (mVar 0) (mC (.int 1000)))
  (mSetF ["End"] "tries" (mVar 0) (mC (.int 0)))))))))))))))))))))))))))
def p_End_init : GM := mDef 5 5 b_p_End_init
def b_p_start_timer : SM := (mSeq (mSetF ["End"] "since" (mVar 0) (mVar 1))
  (mSeq (mSetF ["End"] "wait" (mVar 0) (mC (.int 1000)))
  (mSetF ["End"] "tries" (mVar 0) (mC (.int 0)))))
def p_start_timer : GM := mDef 2 2 b_p_start_timer
def b_p_state : SM := (mRet (mFld ["End"] "state" (mVar 0)))
def p_state : GM := mDef 1 1 b_p_state
def b_p_error : SM := (mRet (mFld ["End"] "error" (mVar 0)))
def p_error : GM := mDef 1 1 b_p_error
def b_p_our_window : SM := (mRet (mCB p_room (mCons (mFld ["End"] "come" (mVar 0)) mNil)))
def p_our_window : GM := mDef 1 1 b_p_our_window
def b_p_most_at_once : SM := (mRet (mCB minG (mCons (mFld ["End"] "most" (mVar 0)) (mCons (mC (.int 16)) mNil))))
def p_most_at_once : GM := mDef 1 1 b_p_most_at_once
def b_p_paid_syn_1 : SM := (mIf (mTest (mOp eqM (mFld ["End"] "state" (mVar 0)) (mC (.str "syn sent")))) (mRet (mTup (mCons (mFld ["End"] "ours" (mVar 0)) (mCons (mFld ["End"] "theirs" (mVar 0)) (mCons (mFld ["End"] "first" (mVar 0)) (mCons (mC (.int 0)) (mCons (mC (.int 2)) (mCons (mC (.int 64)) (mCons (mC (.int 16)) (mCons (mTup mNil) mNil)))))))))) mSkip)
def b_p_paid_syn : SM := (mSeq (mSetF ["End"] "owes_syn" (mVar 0) (mC (.bl false)))
  (mSeq b_p_paid_syn_1
  (mRet (mTup (mCons (mFld ["End"] "ours" (mVar 0)) (mCons (mFld ["End"] "theirs" (mVar 0)) (mCons (mFld ["End"] "first" (mVar 0)) (mCons (mFld ["End"] "rcv" (mVar 0)) (mCons (mOp addM (mC (.int 2)) (mC (.int 16))) (mCons (mC (.int 64)) (mCons (mC (.int 16)) (mCons (mTup mNil) mNil))))))))))))
def p_paid_syn : GM := mDef 1 1 b_p_paid_syn
def b_p_segment_of : SM := (mRet (mTup (mCons (mFld ["End"] "ours" (mVar 0)) (mCons (mFld ["End"] "theirs" (mVar 0)) (mCons (mVar 1) (mCons (mFld ["End"] "rcv" (mVar 0)) (mCons (mOp addM (mVar 2) (mC (.int 16))) (mCons (mCB p_our_window (mCons (mVar 0) mNil)) (mCons (mC (.int 0)) (mCons (mCB tupleG (mCons (mVar 3) mNil)) mNil))))))))))
def p_segment_of : GM := mDef 4 4 b_p_segment_of
def b_p_again_1 : SM := (mIf (mTest (mOp eqM (mFld ["End"] "tries" (mVar 0)) (mC (.int 6)))) (mSeq (mSetF ["End"] "state" (mVar 0) (mC (.str "closed")))
    (mSeq (mSetF ["End"] "error" (mVar 0) (mC (.str "time")))
    (mRet (mC .non)))) mSkip)
def b_p_again_2 : SM := (mIf (mTest (mOp inM (mFld ["End"] "state" (mVar 0)) (mTup (mCons (mC (.str "syn sent")) (mCons (mC (.str "syn come")) mNil))))) (mRet (mCB p_paid_syn (mCons (mVar 0) mNil))) mSkip)
def b_p_again : SM := (mSeq b_p_again_1
  (mSeq (mSetF ["End"] "tries" (mVar 0) (mOp addM (mFld ["End"] "tries" (mVar 0)) (mC (.int 1))))
  (mSeq (mSetF ["End"] "wait" (mVar 0) (mCB minG (mCons (mOp mulM (mC (.int 2)) (mFld ["End"] "wait" (mVar 0))) (mCons (mC (.int 16000)) mNil))))
  (mSeq (mSetF ["End"] "since" (mVar 0) (mVar 1))
  (mSeq b_p_again_2
  (mSeq (mSet 2 (mSl (mFld ["Pile"] "row" (mFld ["End"] "written" (mVar 0))) mNoPart (mPart (mCB minG (mCons (mCB p_offset (mCons (mFld ["End"] "nxt" (mVar 0)) (mCons (mFld ["End"] "una" (mVar 0)) mNil))) (mCons (mCB p_most_at_once (mCons (mVar 0) mNil)) mNil))))))
  (mRet (mCB p_segment_of (mCons (mVar 0) (mCons (mFld ["End"] "una" (mVar 0)) (mCons (mIte (mTest (mOp gtM (mCB lenG (mCons (mVar 2) mNil)) (mC (.int 0)))) (mC (.int 0)) (mC (.int 1))) (mCons (mVar 2) mNil))))))))))))
def p_again : GM := mDef 2 3 b_p_again
def b_p_going_as_answer_1 : SM := (mIf (mNot (mTru (mFld ["End"] "owes_answer" (mVar 0)))) (mRet (mC .non)) mSkip)
def b_p_going_as_answer : SM := (mSeq b_p_going_as_answer_1
  (mSeq (mSetF ["End"] "owes_answer" (mVar 0) (mC (.bl false)))
  (mRet (mCB p_segment_of (mCons (mVar 0) (mCons (mFld ["End"] "nxt" (mVar 0)) (mCons (mC (.int 0)) (mCons (mLst mNil) mNil))))))))
def p_going_as_answer : GM := mDef 1 1 b_p_going_as_answer
def b_p_unsent : SM := (mRet (mCB p_offset (mCons (mFld ["End"] "behind" (mVar 0)) (mCons (mFld ["End"] "nxt" (mVar 0)) mNil))))
def p_unsent : GM := mDef 1 1 b_p_unsent
def b_p_has_new_data : SM := (mRet (mAndV (mOp inM (mFld ["End"] "state" (mVar 0)) (mTup (mCons (mC (.str "open")) (mCons (mC (.str "wait one")) (mCons (mC (.str "close wait")) (mCons (mC (.str "closing")) (mCons (mC (.str "last ack")) mNil))))))) (mOp gtM (mCB p_unsent (mCons (mVar 0) mNil)) (mC (.int 0)))))
def p_has_new_data : GM := mDef 1 1 b_p_has_new_data
def b_p_has_new_fin : SM := (mRet (mAndV (mOp inM (mFld ["End"] "state" (mVar 0)) (mTup (mCons (mC (.str "wait one")) (mCons (mC (.str "closing")) (mCons (mC (.str "last ack")) mNil))))) (mOp eqM (mCB p_unsent (mCons (mVar 0) mNil)) (mC (.int 0)))))
def p_has_new_fin : GM := mDef 1 1 b_p_has_new_fin
def b_p_has_more : SM := (mRet (mOrV (mCB p_has_new_data (mCons (mVar 0) mNil)) (mCB p_has_new_fin (mCons (mVar 0) mNil))))
def p_has_more : GM := mDef 1 1 b_p_has_more
def b_p_new_data : SM := (mSeq (mSet 2 (mFld ["End"] "nxt" (mVar 0)))
  (mSeq (mSet 3 (mCB minG (mCons (mCB p_most_at_once (mCons (mVar 0) mNil)) (mCons (mCB p_unsent (mCons (mVar 0) mNil)) (mCons (mVar 1) mNil)))))
  (mSeq (mSet 4 (mCB p_offset (mCons (mVar 2) (mCons (mFld ["End"] "una" (mVar 0)) mNil))))
  (mSeq (mSetF ["End"] "nxt" (mVar 0) (mCB p_plus (mCons (mVar 2) (mCons (mVar 3) mNil))))
  (mRet (mCB p_segment_of (mCons (mVar 0) (mCons (mVar 2) (mCons (mIte (mTest (mOp eqM (mCB p_unsent (mCons (mVar 0) mNil)) (mC (.int 0)))) (mC (.int 8)) (mC (.int 0))) (mCons (mSl (mFld ["Pile"] "row" (mFld ["End"] "written" (mVar 0))) (mPart (mVar 4)) (mPart (mOp addM (mVar 4) (mVar 3)))) mNil))))))))))
def p_new_data : GM := mDef 2 5 b_p_new_data
def b_p_new_fin : SM := (mSeq (mSet 1 (mFld ["End"] "nxt" (mVar 0)))
  (mSeq (mSetF ["End"] "nxt" (mVar 0) (mCB p_plus (mCons (mVar 1) (mCons (mC (.int 1)) mNil))))
  (mRet (mCB p_segment_of (mCons (mVar 0) (mCons (mVar 1) (mCons (mC (.int 1)) (mCons (mLst mNil) mNil))))))))
def p_new_fin : GM := mDef 1 2 b_p_new_fin
def b_p_new_piece : SM := (mSeq (mSetF ["End"] "probes" (mVar 0) (mC (.bl false)))
  (mRet (mIte (mTru (mCB p_has_new_data (mCons (mVar 0) mNil))) (mCB p_new_data (mCons (mVar 0) (mCons (mVar 1) mNil))) (mCB p_new_fin (mCons (mVar 0) mNil)))))
def p_new_piece : GM := mDef 2 2 b_p_new_piece
def b_p_new_syn_1 : SM := (mIf (mTest (mOp eqM (mFld ["End"] "nxt" (mVar 0)) (mFld ["End"] "una" (mVar 0)))) (mExpr (mCB p_start_timer (mCons (mVar 0) (mCons (mVar 1) mNil)))) mSkip)
def b_p_new_syn : SM := (mSeq b_p_new_syn_1
  (mSeq (mSetF ["End"] "nxt" (mVar 0) (mCB p_plus (mCons (mFld ["End"] "first" (mVar 0)) (mCons (mC (.int 1)) mNil))))
  (mRet (mCB p_paid_syn (mCons (mVar 0) mNil)))))
def p_new_syn : GM := mDef 2 2 b_p_new_syn
def b_p_going_as_new_1 : SM := (mIf (mTest (mOp inM (mFld ["End"] "state" (mVar 0)) (mTup (mCons (mC (.str "syn sent")) (mCons (mC (.str "syn come")) mNil))))) (mRet (mIte (mOr (mTest (mOp eqM (mFld ["End"] "nxt" (mVar 0)) (mFld ["End"] "first" (mVar 0)))) (mTru (mFld ["End"] "owes_syn" (mVar 0)))) (mCB p_new_syn (mCons (mVar 0) (mCons (mVar 1) mNil))) (mC .non))) mSkip)
def b_p_going_as_new_2 : SM := (mIf (mOr (mTest (mOp leM (mVar 2) (mC (.int 0)))) (mNot (mTru (mCB p_has_more (mCons (mVar 0) mNil))))) (mRet (mC .non)) mSkip)
def b_p_going_as_new_3 : SM := (mIf (mTest (mOp eqM (mFld ["End"] "nxt" (mVar 0)) (mFld ["End"] "una" (mVar 0)))) (mExpr (mCB p_start_timer (mCons (mVar 0) (mCons (mVar 1) mNil)))) mSkip)
def b_p_going_as_new : SM := (mSeq b_p_going_as_new_1
  (mSeq (mSet 2 (mOp subM (mFld ["End"] "wnd" (mVar 0)) (mCB p_offset (mCons (mFld ["End"] "nxt" (mVar 0)) (mCons (mFld ["End"] "una" (mVar 0)) mNil)))))
  (mSeq b_p_going_as_new_2
  (mSeq b_p_going_as_new_3
  (mSeq (mSetF ["End"] "owes_answer" (mVar 0) (mC (.bl false)))
  (mRet (mCB p_new_piece (mCons (mVar 0) (mCons (mVar 2) mNil)))))))))
def p_going_as_new : GM := mDef 2 3 b_p_going_as_new
def b_p_is_due : SM := (mRet (mOp geM (mOp subM (mVar 1) (mFld ["End"] "since" (mVar 0))) (mFld ["End"] "wait" (mVar 0))))
def p_is_due : GM := mDef 2 2 b_p_is_due
def b_p_going_as_probe_1 : SM := (mIf (mOr (mTest (mOp neM (mFld ["End"] "nxt" (mVar 0)) (mFld ["End"] "una" (mVar 0)))) (mOr (mTest (mOp neM (mFld ["End"] "wnd" (mVar 0)) (mC (.int 0)))) (mNot (mTru (mCB p_has_more (mCons (mVar 0) mNil)))))) (mSeq (mSetF ["End"] "probes" (mVar 0) (mC (.bl false)))
    (mRet (mC .non))) mSkip)
def b_p_going_as_probe_2 : SM := (mIf (mNot (mTru (mFld ["End"] "probes" (mVar 0)))) (mSeq (mSetF ["End"] "probes" (mVar 0) (mC (.bl true)))
    (mExpr (mCB p_start_timer (mCons (mVar 0) (mCons (mVar 1) mNil))))) mSkip)
def b_p_going_as_probe_3 : SM := (mIf (mNot (mTru (mCB p_is_due (mCons (mVar 0) (mCons (mVar 1) mNil))))) (mRet (mC .non)) mSkip)
def b_p_going_as_probe : SM := (mSeq b_p_going_as_probe_1
  (mSeq b_p_going_as_probe_2
  (mSeq b_p_going_as_probe_3
  (mSeq (mSetF ["End"] "since" (mVar 0) (mVar 1))
  (mRet (mCB p_new_piece (mCons (mVar 0) (mCons (mC (.int 1)) mNil))))))))
def p_going_as_probe : GM := mDef 2 2 b_p_going_as_probe
def b_p_paid_reset : SM := (mSeq (mSet 1 (mFld ["End"] "owed_reset" (mVar 0)))
  (mSeq (mSetF ["End"] "owed_reset" (mVar 0) (mC .non))
  (mRet (mVar 1))))
def p_paid_reset : GM := mDef 1 2 b_p_paid_reset
def b_p_going_1 : SM := (mIf (mTest (mOp isNotM (mFld ["End"] "owed_reset" (mVar 0)) (mC .non))) (mRet (mCB p_paid_reset (mCons (mVar 0) mNil))) mSkip)
def b_p_going_2 : SM := (mIf (mAnd (mTest (mOp eqM (mFld ["End"] "state" (mVar 0)) (mC (.str "time wait")))) (mTest (mOp geM (mOp subM (mVar 1) (mFld ["End"] "since" (mVar 0))) (mC (.int 120000))))) (mSetF ["End"] "state" (mVar 0) (mC (.str "closed"))) mSkip)
def b_p_going_3 : SM := (mIf (mTest (mOp inM (mFld ["End"] "state" (mVar 0)) (mTup (mCons (mC (.str "closed")) (mCons (mC (.str "listen")) mNil))))) (mRet (mC .non)) mSkip)
def b_p_going_4 : SM := (mIf (mAnd (mTest (mOp neM (mFld ["End"] "nxt" (mVar 0)) (mFld ["End"] "una" (mVar 0)))) (mTru (mCB p_is_due (mCons (mVar 0) (mCons (mVar 1) mNil))))) (mRet (mCB p_again (mCons (mVar 0) (mCons (mVar 1) mNil)))) mSkip)
def b_p_going_5 : SM := (mIf (mTest (mOp isM (mVar 2) (mC .non))) (mSet 2 (mCB p_going_as_probe (mCons (mVar 0) (mCons (mVar 1) mNil)))) mSkip)
def b_p_going_6 : SM := (mIf (mTest (mOp isM (mVar 2) (mC .non))) (mSet 2 (mCB p_going_as_answer (mCons (mVar 0) mNil))) mSkip)
def b_p_going : SM := (mSeq b_p_going_1
  (mSeq b_p_going_2
  (mSeq b_p_going_3
  (mSeq b_p_going_4
  (mSeq (mSet 2 (mCB p_going_as_new (mCons (mVar 0) (mCons (mVar 1) mNil))))
  (mSeq b_p_going_5
  (mSeq b_p_going_6
  (mRet (mVar 2)))))))))
def p_going : GM := mDef 2 3 b_p_going
def b_p_send : SM := (mSeq (mSet 2 (mCB p_going (mCons (mVar 0) (mCons (mVar 1) mNil))))
  (mRet (mIte (mTest (mOp isM (mVar 2) (mC .non))) (mLst mNil) (mCB p_put (mCons (mVar 2) mNil)))))
def p_send : GM := mDef 2 3 b_p_send
def b_p_opened : SM := (mRet (mCB (mkG "End" p_End_init) (mCons (mVar 0) (mCons (mVar 1) (mCons (mVar 2) (mCons (mVar 3) mNil))))))
def p_opened : GM := mDef 4 4 b_p_opened
end
end My
set_option Elab.async false
set_option linter.all false
set_option maxRecDepth 100000
set_option maxHeartbeats 4000000
namespace My
open PySem L2 L2.MM
noncomputable section
inductive State where
  | closed | listen | synSent | synCome | opn | waitOne | waitTwo | closeWait | closing | lastAck | timeWait
  deriving DecidableEq
def State.s : State → Str
  | .closed => "closed" | .listen => "listen" | .synSent => "syn sent" | .synCome => "syn come" | .opn => "open" | .waitOne => "wait one" | .waitTwo => "wait two" | .closeWait => "close wait" | .closing => "closing" | .lastAck => "last ack" | .timeWait => "time wait"
inductive Err where
  | none | refused | reset | time
  deriving DecidableEq
def Err.s : Err → Str
  | .none => "" | .refused => "refused" | .reset => "reset" | .time => "time"
structure EndS where
  ours : Int
  theirs : Int
  state : State
  error : Err
  first : Int
  una : Int
  nxt : Int
  rcv : Int
  wnd : Int
  told : Int
  told_by : Int
  most : Int
  written : List Int
  come : List Int
  early : List (Int × Int)
  early_fin : Option Int
  has_closed : Bool
  behind : Int
  owed_reset : Option Seg
  owes_syn : Bool
  owes_answer : Bool
  probes : Bool
  since : Int
  wait : Int
  tries : Int
def finD : Option Int → D
  | none => .non
  | some i => .int i
def rstD : Option Seg → D
  | none => .non
  | some s => s.d
def fields (l : Nat) (e : EndS) : List (Str × D) := [("ours", .int e.ours), ("theirs", .int e.theirs), ("state", .str e.state.s), ("error", .str e.error.s), ("first", .int e.first), ("una", .int e.una), ("nxt", .int e.nxt), ("rcv", .int e.rcv), ("wnd", .int e.wnd), ("told", .int e.told), ("told_by", .int e.told_by), ("most", .int e.most), ("written", .ref (l + 1)), ("come", .ref (l + 2)), ("early", .ref (l + 3)), ("early_fin", finD e.early_fin), ("has_closed", .bl e.has_closed), ("behind", .int e.behind), ("owed_reset", rstD e.owed_reset), ("owes_syn", .bl e.owes_syn), ("owes_answer", .bl e.owes_answer), ("probes", .bl e.probes), ("since", .int e.since), ("wait", .int e.wait), ("tries", .int e.tries)]
def c0 (l : Nat) (e : EndS) : Cell := .ins "End" (fields l e)
def c1 (e : EndS) : Cell := .ins "Pile" [("row", il e.written)]
def c2 (e : EndS) : Cell := .ins "Pile" [("row", il e.come)]
def c3 (e : EndS) : Cell := .dK (e.early.map fun p => (Sum.inl p.1, D.int p.2))
def upE (θ : Sto) (l : Nat) (e : EndS) : Sto := (((θ.set l (c0 l e)).set (l + 1) (c1 e)).set (l + 2) (c2 e)).set (l + 3) (c3 e)
@[simp] theorem upE_len (θ : Sto) (l : Nat) (e : EndS) : (upE θ l e).length = θ.length := by simp [upE]
@[simp] theorem upE_up (θ : Sto) (l : Nat) (e e' : EndS) : upE (upE θ l e) l e' = upE θ l e' := by
  unfold upE
  apply List.ext_getElem?
  intro i
  simp only [List.getElem?_set, List.length_set]
  by_cases h0 : l + 3 = i
  · simp [h0]
  · by_cases h1 : l + 2 = i
    · simp [h0, h1]
    · by_cases h2 : l + 1 = i
      · simp [h0, h1, h2]
      · by_cases h3 : l = i
        · simp [h0, h1, h2, h3]
        · simp [h0, h1, h2, h3]
theorem at0 {θ : Sto} {l : Nat} (h : l + 3 < θ.length) (e : EndS) : (upE θ l e)[l]? = some (c0 l e) := by
  unfold upE
  rw [List.getElem?_set_ne (by omega), List.getElem?_set_ne (by omega), List.getElem?_set_ne (by omega), List.getElem?_set_self (by omega)]
theorem at1 {θ : Sto} {l : Nat} (h : l + 3 < θ.length) (e : EndS) : (upE θ l e)[l + 1]? = some (c1 e) := by
  unfold upE
  rw [List.getElem?_set_ne (by omega), List.getElem?_set_ne (by omega), List.getElem?_set_self (by simp; omega)]
theorem at2' {θ : Sto} {l : Nat} (h : l + 3 < θ.length) (e : EndS) : (upE θ l e)[l + 2]? = some (c2 e) := by
  unfold upE
  rw [List.getElem?_set_ne (by omega), List.getElem?_set_self (by simp; omega)]
theorem set0 {θ : Sto} {l : Nat} (h : l + 3 < θ.length) (e e' : EndS) (h1 : e'.written = e.written) (h2 : e'.come = e.come) (h3 : e'.early = e.early) : (upE θ l e).set l (c0 l e') = upE θ l e' := by
  unfold upE
  rw [show c1 e' = c1 e by unfold c1; rw [h1], show c2 e' = c2 e by unfold c2; rw [h2], show c3 e' = c3 e by unfold c3; rw [h3]]
  apply List.ext_getElem?
  intro i
  simp only [List.getElem?_set, List.length_set]
  by_cases h3 : l = i
  · subst h3; simp
  · simp [h3]
theorem ins0 {θ : Sto} {l : Nat} (h : l + 3 < θ.length) (e : EndS) : insOf (upE θ l e) (.ref l) = some (l, ("End" : Str), fields l e) := by
  show (match (upE θ l e)[l]? with | some (Cell.ins C fs) => some (l, C, fs) | _ => none) = _
  rw [at0 h]
  rfl
theorem ce : (["End"] : List Str).contains "End" = true := by decide +kernel
theorem cp : (["Pile"] : List Str).contains "Pile" = true := by decide +kernel
@[simp] theorem g_ours {θ : Sto} {l : Nat} (h : l + 3 < θ.length) (e : EndS) : fldK ["End"] "ours" (.ref l) (upE θ l e) = .ok (.int e.ours) (upE θ l e) := by
  unfold fldK
  rw [ins0 h]
  simp only [ce, if_true]
  rw [show (fields l e).lookup ("ours" : Str) = some (.int e.ours) by with_unfolding_all rfl]
@[simp] theorem g_theirs {θ : Sto} {l : Nat} (h : l + 3 < θ.length) (e : EndS) : fldK ["End"] "theirs" (.ref l) (upE θ l e) = .ok (.int e.theirs) (upE θ l e) := by
  unfold fldK
  rw [ins0 h]
  simp only [ce, if_true]
  rw [show (fields l e).lookup ("theirs" : Str) = some (.int e.theirs) by with_unfolding_all rfl]
@[simp] theorem g_state {θ : Sto} {l : Nat} (h : l + 3 < θ.length) (e : EndS) : fldK ["End"] "state" (.ref l) (upE θ l e) = .ok (.str e.state.s) (upE θ l e) := by
  unfold fldK
  rw [ins0 h]
  simp only [ce, if_true]
  rw [show (fields l e).lookup ("state" : Str) = some (.str e.state.s) by with_unfolding_all rfl]
@[simp] theorem g_error {θ : Sto} {l : Nat} (h : l + 3 < θ.length) (e : EndS) : fldK ["End"] "error" (.ref l) (upE θ l e) = .ok (.str e.error.s) (upE θ l e) := by
  unfold fldK
  rw [ins0 h]
  simp only [ce, if_true]
  rw [show (fields l e).lookup ("error" : Str) = some (.str e.error.s) by with_unfolding_all rfl]
@[simp] theorem g_first {θ : Sto} {l : Nat} (h : l + 3 < θ.length) (e : EndS) : fldK ["End"] "first" (.ref l) (upE θ l e) = .ok (.int e.first) (upE θ l e) := by
  unfold fldK
  rw [ins0 h]
  simp only [ce, if_true]
  rw [show (fields l e).lookup ("first" : Str) = some (.int e.first) by with_unfolding_all rfl]
@[simp] theorem g_una {θ : Sto} {l : Nat} (h : l + 3 < θ.length) (e : EndS) : fldK ["End"] "una" (.ref l) (upE θ l e) = .ok (.int e.una) (upE θ l e) := by
  unfold fldK
  rw [ins0 h]
  simp only [ce, if_true]
  rw [show (fields l e).lookup ("una" : Str) = some (.int e.una) by with_unfolding_all rfl]
@[simp] theorem g_nxt {θ : Sto} {l : Nat} (h : l + 3 < θ.length) (e : EndS) : fldK ["End"] "nxt" (.ref l) (upE θ l e) = .ok (.int e.nxt) (upE θ l e) := by
  unfold fldK
  rw [ins0 h]
  simp only [ce, if_true]
  rw [show (fields l e).lookup ("nxt" : Str) = some (.int e.nxt) by with_unfolding_all rfl]
@[simp] theorem g_rcv {θ : Sto} {l : Nat} (h : l + 3 < θ.length) (e : EndS) : fldK ["End"] "rcv" (.ref l) (upE θ l e) = .ok (.int e.rcv) (upE θ l e) := by
  unfold fldK
  rw [ins0 h]
  simp only [ce, if_true]
  rw [show (fields l e).lookup ("rcv" : Str) = some (.int e.rcv) by with_unfolding_all rfl]
@[simp] theorem g_wnd {θ : Sto} {l : Nat} (h : l + 3 < θ.length) (e : EndS) : fldK ["End"] "wnd" (.ref l) (upE θ l e) = .ok (.int e.wnd) (upE θ l e) := by
  unfold fldK
  rw [ins0 h]
  simp only [ce, if_true]
  rw [show (fields l e).lookup ("wnd" : Str) = some (.int e.wnd) by with_unfolding_all rfl]
@[simp] theorem g_told {θ : Sto} {l : Nat} (h : l + 3 < θ.length) (e : EndS) : fldK ["End"] "told" (.ref l) (upE θ l e) = .ok (.int e.told) (upE θ l e) := by
  unfold fldK
  rw [ins0 h]
  simp only [ce, if_true]
  rw [show (fields l e).lookup ("told" : Str) = some (.int e.told) by with_unfolding_all rfl]
@[simp] theorem g_told_by {θ : Sto} {l : Nat} (h : l + 3 < θ.length) (e : EndS) : fldK ["End"] "told_by" (.ref l) (upE θ l e) = .ok (.int e.told_by) (upE θ l e) := by
  unfold fldK
  rw [ins0 h]
  simp only [ce, if_true]
  rw [show (fields l e).lookup ("told_by" : Str) = some (.int e.told_by) by with_unfolding_all rfl]
@[simp] theorem g_most {θ : Sto} {l : Nat} (h : l + 3 < θ.length) (e : EndS) : fldK ["End"] "most" (.ref l) (upE θ l e) = .ok (.int e.most) (upE θ l e) := by
  unfold fldK
  rw [ins0 h]
  simp only [ce, if_true]
  rw [show (fields l e).lookup ("most" : Str) = some (.int e.most) by with_unfolding_all rfl]
@[simp] theorem g_written {θ : Sto} {l : Nat} (h : l + 3 < θ.length) (e : EndS) : fldK ["End"] "written" (.ref l) (upE θ l e) = .ok (.ref (l + 1)) (upE θ l e) := by
  unfold fldK
  rw [ins0 h]
  simp only [ce, if_true]
  rw [show (fields l e).lookup ("written" : Str) = some (.ref (l + 1)) by with_unfolding_all rfl]
@[simp] theorem g_come {θ : Sto} {l : Nat} (h : l + 3 < θ.length) (e : EndS) : fldK ["End"] "come" (.ref l) (upE θ l e) = .ok (.ref (l + 2)) (upE θ l e) := by
  unfold fldK
  rw [ins0 h]
  simp only [ce, if_true]
  rw [show (fields l e).lookup ("come" : Str) = some (.ref (l + 2)) by with_unfolding_all rfl]
@[simp] theorem g_early {θ : Sto} {l : Nat} (h : l + 3 < θ.length) (e : EndS) : fldK ["End"] "early" (.ref l) (upE θ l e) = .ok (.ref (l + 3)) (upE θ l e) := by
  unfold fldK
  rw [ins0 h]
  simp only [ce, if_true]
  rw [show (fields l e).lookup ("early" : Str) = some (.ref (l + 3)) by with_unfolding_all rfl]
@[simp] theorem g_early_fin {θ : Sto} {l : Nat} (h : l + 3 < θ.length) (e : EndS) : fldK ["End"] "early_fin" (.ref l) (upE θ l e) = .ok (finD e.early_fin) (upE θ l e) := by
  unfold fldK
  rw [ins0 h]
  simp only [ce, if_true]
  rw [show (fields l e).lookup ("early_fin" : Str) = some (finD e.early_fin) by with_unfolding_all rfl]
@[simp] theorem g_has_closed {θ : Sto} {l : Nat} (h : l + 3 < θ.length) (e : EndS) : fldK ["End"] "has_closed" (.ref l) (upE θ l e) = .ok (.bl e.has_closed) (upE θ l e) := by
  unfold fldK
  rw [ins0 h]
  simp only [ce, if_true]
  rw [show (fields l e).lookup ("has_closed" : Str) = some (.bl e.has_closed) by with_unfolding_all rfl]
@[simp] theorem g_behind {θ : Sto} {l : Nat} (h : l + 3 < θ.length) (e : EndS) : fldK ["End"] "behind" (.ref l) (upE θ l e) = .ok (.int e.behind) (upE θ l e) := by
  unfold fldK
  rw [ins0 h]
  simp only [ce, if_true]
  rw [show (fields l e).lookup ("behind" : Str) = some (.int e.behind) by with_unfolding_all rfl]
@[simp] theorem g_owed_reset {θ : Sto} {l : Nat} (h : l + 3 < θ.length) (e : EndS) : fldK ["End"] "owed_reset" (.ref l) (upE θ l e) = .ok (rstD e.owed_reset) (upE θ l e) := by
  unfold fldK
  rw [ins0 h]
  simp only [ce, if_true]
  rw [show (fields l e).lookup ("owed_reset" : Str) = some (rstD e.owed_reset) by with_unfolding_all rfl]
@[simp] theorem g_owes_syn {θ : Sto} {l : Nat} (h : l + 3 < θ.length) (e : EndS) : fldK ["End"] "owes_syn" (.ref l) (upE θ l e) = .ok (.bl e.owes_syn) (upE θ l e) := by
  unfold fldK
  rw [ins0 h]
  simp only [ce, if_true]
  rw [show (fields l e).lookup ("owes_syn" : Str) = some (.bl e.owes_syn) by with_unfolding_all rfl]
@[simp] theorem g_owes_answer {θ : Sto} {l : Nat} (h : l + 3 < θ.length) (e : EndS) : fldK ["End"] "owes_answer" (.ref l) (upE θ l e) = .ok (.bl e.owes_answer) (upE θ l e) := by
  unfold fldK
  rw [ins0 h]
  simp only [ce, if_true]
  rw [show (fields l e).lookup ("owes_answer" : Str) = some (.bl e.owes_answer) by with_unfolding_all rfl]
@[simp] theorem g_probes {θ : Sto} {l : Nat} (h : l + 3 < θ.length) (e : EndS) : fldK ["End"] "probes" (.ref l) (upE θ l e) = .ok (.bl e.probes) (upE θ l e) := by
  unfold fldK
  rw [ins0 h]
  simp only [ce, if_true]
  rw [show (fields l e).lookup ("probes" : Str) = some (.bl e.probes) by with_unfolding_all rfl]
@[simp] theorem g_since {θ : Sto} {l : Nat} (h : l + 3 < θ.length) (e : EndS) : fldK ["End"] "since" (.ref l) (upE θ l e) = .ok (.int e.since) (upE θ l e) := by
  unfold fldK
  rw [ins0 h]
  simp only [ce, if_true]
  rw [show (fields l e).lookup ("since" : Str) = some (.int e.since) by with_unfolding_all rfl]
@[simp] theorem g_wait {θ : Sto} {l : Nat} (h : l + 3 < θ.length) (e : EndS) : fldK ["End"] "wait" (.ref l) (upE θ l e) = .ok (.int e.wait) (upE θ l e) := by
  unfold fldK
  rw [ins0 h]
  simp only [ce, if_true]
  rw [show (fields l e).lookup ("wait" : Str) = some (.int e.wait) by with_unfolding_all rfl]
@[simp] theorem g_tries {θ : Sto} {l : Nat} (h : l + 3 < θ.length) (e : EndS) : fldK ["End"] "tries" (.ref l) (upE θ l e) = .ok (.int e.tries) (upE θ l e) := by
  unfold fldK
  rw [ins0 h]
  simp only [ce, if_true]
  rw [show (fields l e).lookup ("tries" : Str) = some (.int e.tries) by with_unfolding_all rfl]
@[simp] theorem s_ours {θ : Sto} {l : Nat} (h : l + 3 < θ.length) (e : EndS) (v : Int) : setK ["End"] "ours" (.int v) (.ref l) (upE θ l e) = some (upE θ l { e with ours := v }) := by
  unfold setK
  rw [ins0 h]
  simp only [ce]
  rw [if_pos ⟨trivial, show 25 < 1000 by decide⟩, show putFD ("ours" : Str) (.int v) (fields l e) = fields l { e with ours := v } by with_unfolding_all rfl]
  exact congrArg some (set0 h e { e with ours := v } rfl rfl rfl)
@[simp] theorem s_theirs {θ : Sto} {l : Nat} (h : l + 3 < θ.length) (e : EndS) (v : Int) : setK ["End"] "theirs" (.int v) (.ref l) (upE θ l e) = some (upE θ l { e with theirs := v }) := by
  unfold setK
  rw [ins0 h]
  simp only [ce]
  rw [if_pos ⟨trivial, show 25 < 1000 by decide⟩, show putFD ("theirs" : Str) (.int v) (fields l e) = fields l { e with theirs := v } by with_unfolding_all rfl]
  exact congrArg some (set0 h e { e with theirs := v } rfl rfl rfl)
@[simp] theorem s_state {θ : Sto} {l : Nat} (h : l + 3 < θ.length) (e : EndS) (v : State) : setK ["End"] "state" (.str v.s) (.ref l) (upE θ l e) = some (upE θ l { e with state := v }) := by
  unfold setK
  rw [ins0 h]
  simp only [ce]
  rw [if_pos ⟨trivial, show 25 < 1000 by decide⟩, show putFD ("state" : Str) (.str v.s) (fields l e) = fields l { e with state := v } by with_unfolding_all rfl]
  exact congrArg some (set0 h e { e with state := v } rfl rfl rfl)
@[simp] theorem s_error {θ : Sto} {l : Nat} (h : l + 3 < θ.length) (e : EndS) (v : Err) : setK ["End"] "error" (.str v.s) (.ref l) (upE θ l e) = some (upE θ l { e with error := v }) := by
  unfold setK
  rw [ins0 h]
  simp only [ce]
  rw [if_pos ⟨trivial, show 25 < 1000 by decide⟩, show putFD ("error" : Str) (.str v.s) (fields l e) = fields l { e with error := v } by with_unfolding_all rfl]
  exact congrArg some (set0 h e { e with error := v } rfl rfl rfl)
@[simp] theorem s_first {θ : Sto} {l : Nat} (h : l + 3 < θ.length) (e : EndS) (v : Int) : setK ["End"] "first" (.int v) (.ref l) (upE θ l e) = some (upE θ l { e with first := v }) := by
  unfold setK
  rw [ins0 h]
  simp only [ce]
  rw [if_pos ⟨trivial, show 25 < 1000 by decide⟩, show putFD ("first" : Str) (.int v) (fields l e) = fields l { e with first := v } by with_unfolding_all rfl]
  exact congrArg some (set0 h e { e with first := v } rfl rfl rfl)
@[simp] theorem s_una {θ : Sto} {l : Nat} (h : l + 3 < θ.length) (e : EndS) (v : Int) : setK ["End"] "una" (.int v) (.ref l) (upE θ l e) = some (upE θ l { e with una := v }) := by
  unfold setK
  rw [ins0 h]
  simp only [ce]
  rw [if_pos ⟨trivial, show 25 < 1000 by decide⟩, show putFD ("una" : Str) (.int v) (fields l e) = fields l { e with una := v } by with_unfolding_all rfl]
  exact congrArg some (set0 h e { e with una := v } rfl rfl rfl)
@[simp] theorem s_nxt {θ : Sto} {l : Nat} (h : l + 3 < θ.length) (e : EndS) (v : Int) : setK ["End"] "nxt" (.int v) (.ref l) (upE θ l e) = some (upE θ l { e with nxt := v }) := by
  unfold setK
  rw [ins0 h]
  simp only [ce]
  rw [if_pos ⟨trivial, show 25 < 1000 by decide⟩, show putFD ("nxt" : Str) (.int v) (fields l e) = fields l { e with nxt := v } by with_unfolding_all rfl]
  exact congrArg some (set0 h e { e with nxt := v } rfl rfl rfl)
@[simp] theorem s_rcv {θ : Sto} {l : Nat} (h : l + 3 < θ.length) (e : EndS) (v : Int) : setK ["End"] "rcv" (.int v) (.ref l) (upE θ l e) = some (upE θ l { e with rcv := v }) := by
  unfold setK
  rw [ins0 h]
  simp only [ce]
  rw [if_pos ⟨trivial, show 25 < 1000 by decide⟩, show putFD ("rcv" : Str) (.int v) (fields l e) = fields l { e with rcv := v } by with_unfolding_all rfl]
  exact congrArg some (set0 h e { e with rcv := v } rfl rfl rfl)
@[simp] theorem s_wnd {θ : Sto} {l : Nat} (h : l + 3 < θ.length) (e : EndS) (v : Int) : setK ["End"] "wnd" (.int v) (.ref l) (upE θ l e) = some (upE θ l { e with wnd := v }) := by
  unfold setK
  rw [ins0 h]
  simp only [ce]
  rw [if_pos ⟨trivial, show 25 < 1000 by decide⟩, show putFD ("wnd" : Str) (.int v) (fields l e) = fields l { e with wnd := v } by with_unfolding_all rfl]
  exact congrArg some (set0 h e { e with wnd := v } rfl rfl rfl)
@[simp] theorem s_told {θ : Sto} {l : Nat} (h : l + 3 < θ.length) (e : EndS) (v : Int) : setK ["End"] "told" (.int v) (.ref l) (upE θ l e) = some (upE θ l { e with told := v }) := by
  unfold setK
  rw [ins0 h]
  simp only [ce]
  rw [if_pos ⟨trivial, show 25 < 1000 by decide⟩, show putFD ("told" : Str) (.int v) (fields l e) = fields l { e with told := v } by with_unfolding_all rfl]
  exact congrArg some (set0 h e { e with told := v } rfl rfl rfl)
@[simp] theorem s_told_by {θ : Sto} {l : Nat} (h : l + 3 < θ.length) (e : EndS) (v : Int) : setK ["End"] "told_by" (.int v) (.ref l) (upE θ l e) = some (upE θ l { e with told_by := v }) := by
  unfold setK
  rw [ins0 h]
  simp only [ce]
  rw [if_pos ⟨trivial, show 25 < 1000 by decide⟩, show putFD ("told_by" : Str) (.int v) (fields l e) = fields l { e with told_by := v } by with_unfolding_all rfl]
  exact congrArg some (set0 h e { e with told_by := v } rfl rfl rfl)
@[simp] theorem s_most {θ : Sto} {l : Nat} (h : l + 3 < θ.length) (e : EndS) (v : Int) : setK ["End"] "most" (.int v) (.ref l) (upE θ l e) = some (upE θ l { e with most := v }) := by
  unfold setK
  rw [ins0 h]
  simp only [ce]
  rw [if_pos ⟨trivial, show 25 < 1000 by decide⟩, show putFD ("most" : Str) (.int v) (fields l e) = fields l { e with most := v } by with_unfolding_all rfl]
  exact congrArg some (set0 h e { e with most := v } rfl rfl rfl)
@[simp] theorem s_early_fin {θ : Sto} {l : Nat} (h : l + 3 < θ.length) (e : EndS) (v : Option Int) : setK ["End"] "early_fin" (finD v) (.ref l) (upE θ l e) = some (upE θ l { e with early_fin := v }) := by
  unfold setK
  rw [ins0 h]
  simp only [ce]
  rw [if_pos ⟨trivial, show 25 < 1000 by decide⟩, show putFD ("early_fin" : Str) (finD v) (fields l e) = fields l { e with early_fin := v } by with_unfolding_all rfl]
  exact congrArg some (set0 h e { e with early_fin := v } rfl rfl rfl)
@[simp] theorem s_has_closed {θ : Sto} {l : Nat} (h : l + 3 < θ.length) (e : EndS) (v : Bool) : setK ["End"] "has_closed" (.bl v) (.ref l) (upE θ l e) = some (upE θ l { e with has_closed := v }) := by
  unfold setK
  rw [ins0 h]
  simp only [ce]
  rw [if_pos ⟨trivial, show 25 < 1000 by decide⟩, show putFD ("has_closed" : Str) (.bl v) (fields l e) = fields l { e with has_closed := v } by with_unfolding_all rfl]
  exact congrArg some (set0 h e { e with has_closed := v } rfl rfl rfl)
@[simp] theorem s_behind {θ : Sto} {l : Nat} (h : l + 3 < θ.length) (e : EndS) (v : Int) : setK ["End"] "behind" (.int v) (.ref l) (upE θ l e) = some (upE θ l { e with behind := v }) := by
  unfold setK
  rw [ins0 h]
  simp only [ce]
  rw [if_pos ⟨trivial, show 25 < 1000 by decide⟩, show putFD ("behind" : Str) (.int v) (fields l e) = fields l { e with behind := v } by with_unfolding_all rfl]
  exact congrArg some (set0 h e { e with behind := v } rfl rfl rfl)
@[simp] theorem s_owed_reset {θ : Sto} {l : Nat} (h : l + 3 < θ.length) (e : EndS) (v : Option Seg) : setK ["End"] "owed_reset" (rstD v) (.ref l) (upE θ l e) = some (upE θ l { e with owed_reset := v }) := by
  unfold setK
  rw [ins0 h]
  simp only [ce]
  rw [if_pos ⟨trivial, show 25 < 1000 by decide⟩, show putFD ("owed_reset" : Str) (rstD v) (fields l e) = fields l { e with owed_reset := v } by with_unfolding_all rfl]
  exact congrArg some (set0 h e { e with owed_reset := v } rfl rfl rfl)
@[simp] theorem s_owes_syn {θ : Sto} {l : Nat} (h : l + 3 < θ.length) (e : EndS) (v : Bool) : setK ["End"] "owes_syn" (.bl v) (.ref l) (upE θ l e) = some (upE θ l { e with owes_syn := v }) := by
  unfold setK
  rw [ins0 h]
  simp only [ce]
  rw [if_pos ⟨trivial, show 25 < 1000 by decide⟩, show putFD ("owes_syn" : Str) (.bl v) (fields l e) = fields l { e with owes_syn := v } by with_unfolding_all rfl]
  exact congrArg some (set0 h e { e with owes_syn := v } rfl rfl rfl)
@[simp] theorem s_owes_answer {θ : Sto} {l : Nat} (h : l + 3 < θ.length) (e : EndS) (v : Bool) : setK ["End"] "owes_answer" (.bl v) (.ref l) (upE θ l e) = some (upE θ l { e with owes_answer := v }) := by
  unfold setK
  rw [ins0 h]
  simp only [ce]
  rw [if_pos ⟨trivial, show 25 < 1000 by decide⟩, show putFD ("owes_answer" : Str) (.bl v) (fields l e) = fields l { e with owes_answer := v } by with_unfolding_all rfl]
  exact congrArg some (set0 h e { e with owes_answer := v } rfl rfl rfl)
@[simp] theorem s_probes {θ : Sto} {l : Nat} (h : l + 3 < θ.length) (e : EndS) (v : Bool) : setK ["End"] "probes" (.bl v) (.ref l) (upE θ l e) = some (upE θ l { e with probes := v }) := by
  unfold setK
  rw [ins0 h]
  simp only [ce]
  rw [if_pos ⟨trivial, show 25 < 1000 by decide⟩, show putFD ("probes" : Str) (.bl v) (fields l e) = fields l { e with probes := v } by with_unfolding_all rfl]
  exact congrArg some (set0 h e { e with probes := v } rfl rfl rfl)
@[simp] theorem s_since {θ : Sto} {l : Nat} (h : l + 3 < θ.length) (e : EndS) (v : Int) : setK ["End"] "since" (.int v) (.ref l) (upE θ l e) = some (upE θ l { e with since := v }) := by
  unfold setK
  rw [ins0 h]
  simp only [ce]
  rw [if_pos ⟨trivial, show 25 < 1000 by decide⟩, show putFD ("since" : Str) (.int v) (fields l e) = fields l { e with since := v } by with_unfolding_all rfl]
  exact congrArg some (set0 h e { e with since := v } rfl rfl rfl)
@[simp] theorem s_wait {θ : Sto} {l : Nat} (h : l + 3 < θ.length) (e : EndS) (v : Int) : setK ["End"] "wait" (.int v) (.ref l) (upE θ l e) = some (upE θ l { e with wait := v }) := by
  unfold setK
  rw [ins0 h]
  simp only [ce]
  rw [if_pos ⟨trivial, show 25 < 1000 by decide⟩, show putFD ("wait" : Str) (.int v) (fields l e) = fields l { e with wait := v } by with_unfolding_all rfl]
  exact congrArg some (set0 h e { e with wait := v } rfl rfl rfl)
@[simp] theorem s_tries {θ : Sto} {l : Nat} (h : l + 3 < θ.length) (e : EndS) (v : Int) : setK ["End"] "tries" (.int v) (.ref l) (upE θ l e) = some (upE θ l { e with tries := v }) := by
  unfold setK
  rw [ins0 h]
  simp only [ce]
  rw [if_pos ⟨trivial, show 25 < 1000 by decide⟩, show putFD ("tries" : Str) (.int v) (fields l e) = fields l { e with tries := v } by with_unfolding_all rfl]
  exact congrArg some (set0 h e { e with tries := v } rfl rfl rfl)
section
variable {θ : Sto} {l : Nat}
@[simp] theorem g_rowW (h : l + 3 < θ.length) (e : EndS) : fldK ["Pile"] "row" (.ref (l + 1)) (upE θ l e) = .ok (il e.written) (upE θ l e) := by
  have : insOf (upE θ l e) (.ref (l + 1)) = some (l + 1, ("Pile" : Str), [(("row" : Str), il e.written)]) := by
    show (match (upE θ l e)[l + 1]? with | some (Cell.ins C fs) => some (l + 1, C, fs) | _ => none) = _
    rw [at1 h]
    rfl
  unfold fldK
  rw [this]
  simp only [cp, if_true]
  rw [show ([("row", il e.written)] : List (Str × D)).lookup ("row" : Str) = some (il e.written) by with_unfolding_all rfl]
@[simp] theorem g_rowC (h : l + 3 < θ.length) (e : EndS) : fldK ["Pile"] "row" (.ref (l + 2)) (upE θ l e) = .ok (il e.come) (upE θ l e) := by
  have : insOf (upE θ l e) (.ref (l + 2)) = some (l + 2, ("Pile" : Str), [(("row" : Str), il e.come)]) := by
    show (match (upE θ l e)[l + 2]? with | some (Cell.ins C fs) => some (l + 2, C, fs) | _ => none) = _
    rw [at2' h]
    rfl
  unfold fldK
  rw [this]
  simp only [cp, if_true]
  rw [show ([("row", il e.come)] : List (Str × D)).lookup ("row" : Str) = some (il e.come) by with_unfolding_all rfl]
@[simp] theorem s_rowW (h : l + 3 < θ.length) (e : EndS) (r : List Int) : setK ["Pile"] "row" (il r) (.ref (l + 1)) (upE θ l e) = some (upE θ l { e with written := r }) := by
  have : insOf (upE θ l e) (.ref (l + 1)) = some (l + 1, ("Pile" : Str), [(("row" : Str), il e.written)]) := by
    show (match (upE θ l e)[l + 1]? with | some (Cell.ins C fs) => some (l + 1, C, fs) | _ => none) = _
    rw [at1 h]
    rfl
  unfold setK
  rw [this]
  simp only [cp]
  rw [if_pos ⟨trivial, show 1 < 1000 by decide⟩, show putFD ("row" : Str) (il r) [("row", il e.written)] = [(("row" : Str), il r)] by with_unfolding_all rfl]
  congr 1
  unfold upE
  apply List.ext_getElem?
  intro i
  simp only [List.getElem?_set, List.length_set]
  by_cases q : l + 1 = i
  · subst q; simp [c1]
  · simp [q, c0, c2, c3, fields]
@[simp] theorem s_rowC (h : l + 3 < θ.length) (e : EndS) (r : List Int) : setK ["Pile"] "row" (il r) (.ref (l + 2)) (upE θ l e) = some (upE θ l { e with come := r }) := by
  have : insOf (upE θ l e) (.ref (l + 2)) = some (l + 2, ("Pile" : Str), [(("row" : Str), il e.come)]) := by
    show (match (upE θ l e)[l + 2]? with | some (Cell.ins C fs) => some (l + 2, C, fs) | _ => none) = _
    rw [at2' h]
    rfl
  unfold setK
  rw [this]
  simp only [cp]
  rw [if_pos ⟨trivial, show 1 < 1000 by decide⟩, show putFD ("row" : Str) (il r) [("row", il e.come)] = [(("row" : Str), il r)] by with_unfolding_all rfl]
  congr 1
  unfold upE
  apply List.ext_getElem?
  intro i
  simp only [List.getElem?_set, List.length_set]
  by_cases q : l + 2 = i
  · subst q; simp [c2]
  · simp [q, c0, c1, c3, fields]
end
@[simp] theorem w_closed : ("closed" : Str) = State.closed.s := nr rfl
@[simp] theorem w_listen : ("listen" : Str) = State.listen.s := nr rfl
@[simp] theorem w_synSent : ("syn sent" : Str) = State.synSent.s := nr rfl
@[simp] theorem w_synCome : ("syn come" : Str) = State.synCome.s := nr rfl
@[simp] theorem w_open : ("open" : Str) = State.opn.s := nr rfl
@[simp] theorem w_waitOne : ("wait one" : Str) = State.waitOne.s := nr rfl
@[simp] theorem w_waitTwo : ("wait two" : Str) = State.waitTwo.s := nr rfl
@[simp] theorem w_closeWait : ("close wait" : Str) = State.closeWait.s := nr rfl
@[simp] theorem w_closing : ("closing" : Str) = State.closing.s := nr rfl
@[simp] theorem w_lastAck : ("last ack" : Str) = State.lastAck.s := nr rfl
@[simp] theorem w_timeWait : ("time wait" : Str) = State.timeWait.s := nr rfl
@[simp] theorem w_none : ("" : Str) = Err.none.s := nr rfl
@[simp] theorem w_refused : ("refused" : Str) = Err.refused.s := nr rfl
@[simp] theorem w_reset : ("reset" : Str) = Err.reset.s := nr rfl
@[simp] theorem w_time : ("time" : Str) = Err.time.s := nr rfl
theorem State.inj : ∀ a b : State, a.s = b.s ↔ a = b := by
  intro a b
  constructor
  · intro h
    cases a <;> cases b <;> first | rfl | (exact absurd h (by decide +kernel))
  · intro h; rw [h]
theorem Err.inj : ∀ a b : Err, a.s = b.s ↔ a = b := by
  intro a b
  constructor
  · intro h
    cases a <;> cases b <;> first | rfl | (exact absurd h (by decide +kernel))
  · intro h; rw [h]
theorem pl_str (k : Nat) (x : Str) : pl k (.str x) = PyData.strOk x := by cases k <;> simp [pl]
theorem State.ok (a : State) (k : Nat) : pl k (.str a.s) = true := by
  rw [pl_str]
  cases a <;> decide +kernel
theorem Err.ok (a : Err) (k : Nat) : pl k (.str a.s) = true := by
  rw [pl_str]
  cases a <;> decide +kernel
section
variable {θ : Sto}
@[simp] theorem eq_state (a b : State) : eqM (.str a.s) (.str b.s) θ = .ok (.bl (decide (a = b))) θ := by
  rw [eqM_of (x := .str a.s) (y := .str b.s) (cmp_ok (State.ok a 9) (State.ok b 9) rfl rfl)]
  simp [State.inj]
@[simp] theorem ne_state (a b : State) : neM (.str a.s) (.str b.s) θ = .ok (.bl (!decide (a = b))) θ := by
  rw [neM_of (x := .str a.s) (y := .str b.s) (cmp_ok (State.ok a 9) (State.ok b 9) rfl rfl)]
  simp [State.inj]
@[simp] theorem eq_err (a b : Err) : eqM (.str a.s) (.str b.s) θ = .ok (.bl (decide (a = b))) θ := by
  rw [eqM_of (x := .str a.s) (y := .str b.s) (cmp_ok (Err.ok a 9) (Err.ok b 9) rfl rfl)]
  simp [Err.inj]
@[simp] theorem ne_err (a b : Err) : neM (.str a.s) (.str b.s) θ = .ok (.bl (!decide (a = b))) θ := by
  rw [neM_of (x := .str a.s) (y := .str b.s) (cmp_ok (Err.ok a 9) (Err.ok b 9) rfl rfl)]
  simp [Err.inj]
theorem memS_state (a : State) : ∀ bs : List State, allStr (bs.map fun b => D.str b.s) = true ∧ memS a.s (bs.map fun b => D.str b.s) = decide (a ∈ bs)
  | [] => ⟨rfl, by simp [memS]⟩
  | b :: bs => by
    obtain ⟨h1, h2⟩ := memS_state a bs
    refine ⟨h1, ?_⟩
    rw [List.map_cons]
    show (decide (b.s = a.s) || memS a.s (bs.map fun b => D.str b.s)) = _
    rw [h2, Bool.eq_iff_iff]
    simp only [Bool.or_eq_true, decide_eq_true_eq, List.mem_cons, State.inj]
    constructor
    · rintro (h | h)
      · exact .inl h.symm
      · exact .inr h
    · rintro (h | h)
      · exact .inl h.symm
      · exact .inr h
theorem in_states (a : State) (bs : List State) : inM (.str a.s) (.tup (bs.map fun b => .str b.s)) θ = .ok (.bl (decide (a ∈ bs))) θ := by
  obtain ⟨h1, h2⟩ := memS_state a bs
  have e : inD θ (.str a.s) (.tup (bs.map fun b => D.str b.s)) = some (decide (a ∈ bs)) := by
    unfold inD
    simp only [x_seqOf_tup]
    rw [if_pos h1, h2]
  unfold inM
  rw [e]
theorem notIn_states (a : State) (bs : List State) : notInM (.str a.s) (.tup (bs.map fun b => .str b.s)) θ = .ok (.bl (!decide (a ∈ bs))) θ := by
  obtain ⟨h1, h2⟩ := memS_state a bs
  have e : inD θ (.str a.s) (.tup (bs.map fun b => D.str b.s)) = some (decide (a ∈ bs)) := by
    unfold inD
    simp only [x_seqOf_tup]
    rw [if_pos h1, h2]
  unfold notInM
  rw [e]
@[simp] theorem in_s2 (a b c : State) : inM (.str a.s) (.tup [.str b.s, .str c.s]) θ = .ok (.bl (decide (a ∈ [b, c]))) θ := in_states a [b, c]
@[simp] theorem in_s3 (a b c d : State) : inM (.str a.s) (.tup [.str b.s, .str c.s, .str d.s]) θ = .ok (.bl (decide (a ∈ [b, c, d]))) θ := in_states a [b, c, d]
@[simp] theorem in_s4 (a b c d e : State) : inM (.str a.s) (.tup [.str b.s, .str c.s, .str d.s, .str e.s]) θ = .ok (.bl (decide (a ∈ [b, c, d, e]))) θ := in_states a [b, c, d, e]
@[simp] theorem in_s5 (a b c d e f : State) : inM (.str a.s) (.tup [.str b.s, .str c.s, .str d.s, .str e.s, .str f.s]) θ = .ok (.bl (decide (a ∈ [b, c, d, e, f]))) θ := in_states a [b, c, d, e, f]
@[simp] theorem notIn_s2 (a b c : State) : notInM (.str a.s) (.tup [.str b.s, .str c.s]) θ = .ok (.bl (!decide (a ∈ [b, c]))) θ := notIn_states a [b, c]
@[simp] theorem notIn_s3 (a b c d : State) : notInM (.str a.s) (.tup [.str b.s, .str c.s, .str d.s]) θ = .ok (.bl (!decide (a ∈ [b, c, d]))) θ := notIn_states a [b, c, d]
@[simp] theorem notIn_s4 (a b c d e : State) : notInM (.str a.s) (.tup [.str b.s, .str c.s, .str d.s, .str e.s]) θ = .ok (.bl (!decide (a ∈ [b, c, d, e]))) θ := notIn_states a [b, c, d, e]
end
end
end My
set_option Elab.async false
set_option linter.all false
set_option maxRecDepth 100000
set_option maxHeartbeats 4000000
namespace My
open PySem L2 L2.MM
noncomputable section
def plus (n k : Int) : Int := (n + k) % 4294967296
def offset (n b : Int) : Int := (n - b + 2147483648) % 4294967296 - 2147483648
def startTimer (e : EndS) (now : Int) : EndS := { e with since := now, wait := 1000, tries := 0 }
def ourWindow (e : EndS) : Int := 64 - (e.come.length : Int)
def mostAtOnce (e : EndS) : Int := if 16 < e.most then 16 else e.most
def isDue (e : EndS) (now : Int) : Bool := decide (e.wait ≤ now - e.since)
def segOf (e : EndS) (n f : Int) (data : List Int) : Seg := ⟨e.ours, e.theirs, n, e.rcv, f + 16, ourWindow e, 0, data⟩
def paidSyn (e : EndS) : Seg := if e.state = .synSent then ⟨e.ours, e.theirs, e.first, 0, 2, 64, 16, []⟩ else ⟨e.ours, e.theirs, e.first, e.rcv, 18, 64, 16, []⟩
def mn (i j : Int) : Int := if j < i then j else i
def againData (e : EndS) : List Int := cutL e.written none (some (mn (offset e.nxt e.una) (mostAtOnce e)))
def again (e : EndS) (now : Int) : Option Seg × EndS :=
  if e.tries = 6 then (none, { e with state := .closed, error := .time })
  else
    let e1 := { e with tries := e.tries + 1, wait := mn (2 * e.wait) 16000, since := now }
    if e.state = .synSent ∨ e.state = .synCome then (some (paidSyn e1), { e1 with owes_syn := false })
    else (some (segOf e1 e.una (if 0 < (againData e).length then 0 else 1) (againData e)), e1)
def unsent (e : EndS) : Int := offset e.behind e.nxt
def hasNewData (e : EndS) : Bool := decide (e.state ∈ [State.opn, .waitOne, .closeWait, .closing, .lastAck]) && decide (0 < unsent e)
def hasNewFin (e : EndS) : Bool := decide (e.state ∈ [State.waitOne, .closing, .lastAck]) && decide (unsent e = 0)
def hasMore (e : EndS) : Bool := hasNewData e || hasNewFin e
section
variable {θ : Sto} {l : Nat} {e : EndS} {now n k : Int}
@[simp] theorem t_plus : p_plus [.int n, .int k] θ = .ok (.int (plus n k)) θ := by simp [p_plus, b_p_plus, plus]
@[simp] theorem t_offset : p_offset [.int n, .int k] θ = .ok (.int (offset n k)) θ := by simp [p_offset, b_p_offset, offset]
@[simp] theorem t_start_timer (h : l + 3 < θ.length) : p_start_timer [.ref l, .int now] (upE θ l e) = .ok .non (upE θ l (startTimer e now)) := by
  simp [p_start_timer, b_p_start_timer, h, startTimer]
@[simp] theorem t_state (h : l + 3 < θ.length) : p_state [.ref l] (upE θ l e) = .ok (.str e.state.s) (upE θ l e) := by
  simp [p_state, b_p_state, h]
@[simp] theorem t_error (h : l + 3 < θ.length) : p_error [.ref l] (upE θ l e) = .ok (.str e.error.s) (upE θ l e) := by
  simp [p_error, b_p_error, h]
@[simp] theorem t_roomC (h : l + 3 < θ.length) : p_room [.ref (l + 2)] (upE θ l e) = .ok (.int (ourWindow e)) (upE θ l e) := by
  simp [p_room, b_p_room, h, ourWindow]
@[simp] theorem t_our_window (h : l + 3 < θ.length) : p_our_window [.ref l] (upE θ l e) = .ok (.int (ourWindow e)) (upE θ l e) := by
  simp [p_our_window, b_p_our_window, h]
@[simp] theorem t_most_at_once (h : l + 3 < θ.length) : p_most_at_once [.ref l] (upE θ l e) = .ok (.int (mostAtOnce e)) (upE θ l e) := by
  simp [p_most_at_once, b_p_most_at_once, h, mostAtOnce]
@[simp] theorem t_is_due (h : l + 3 < θ.length) : p_is_due [.ref l, .int now] (upE θ l e) = .ok (.bl (isDue e now)) (upE θ l e) := by
  simp [p_is_due, b_p_is_due, h, isDue]
theorem seg_d (a b c d f g i : Int) (x : List Int) : D.tup [.int a, .int b, .int c, .int d, .int f, .int g, .int i, itp x] = (Seg.mk a b c d f g i x).d := rfl
theorem seg_d0 (a b c d f g i : Int) : D.tup [.int a, .int b, .int c, .int d, .int f, .int g, .int i, .tup []] = (Seg.mk a b c d f g i []).d := rfl
@[simp] theorem t_paid_syn (h : l + 3 < θ.length) : p_paid_syn [.ref l] (upE θ l e) = .ok (paidSyn e).d (upE θ l { e with owes_syn := false }) := by
  by_cases c : e.state = .synSent <;> simp [p_paid_syn, b_p_paid_syn, b_p_paid_syn_1, h, paidSyn, c, seg_d0]
@[simp] theorem t_segment_of {f : Int} {data : List Int} (h : l + 3 < θ.length) : p_segment_of [.ref l, .int n, .int f, il data] (upE θ l e) = .ok (segOf e n f data).d (upE θ l e) := by
  simp [p_segment_of, b_p_segment_of, h, segOf, seg_d]
theorem t_again (h : l + 3 < θ.length) : p_again [.ref l, .int now] (upE θ l e) = .ok (rstD (again e now).1) (upE θ l (again e now).2) := by
  by_cases c : e.tries = 6
  · simp [p_again, b_p_again, b_p_again_1, h, again, c, rstD]
  · by_cases c2 : e.state = .synSent ∨ e.state = .synCome
    · simp [p_again, b_p_again, b_p_again_1, b_p_again_2, h, again, c, c2, rstD, MulB, mn]
    · have am : ∀ e' : EndS, e'.most = e.most → mostAtOnce e' = mostAtOnce e := fun e' h => by unfold mostAtOnce; rw [h]
      have ad : againData e = cutL e.written none (some (mn (offset e.nxt e.una) (mostAtOnce e))) := rfl
      have sl : ∀ e' : EndS, e'.written = e.written → sliceD (upE θ l e') (il e'.written) none (some (if mostAtOnce e < offset e.nxt e.una then mostAtOnce e else offset e.nxt e.una)) = some (il (againData e)) := fun e' h' => by
        rw [il_sl, h']; rfl
      unfold again
      rw [if_neg c, if_neg c2]
      have c2' : ¬ (e.state = State.synSent ∨ e.state = State.synCome) := c2
      by_cases c3 : 0 < (againData e).length
      · rw [if_pos c3]
        have c3' : (0 : Int) < (againData e).length := by omega
        simp [p_again, b_p_again, b_p_again_1, b_p_again_2, h, c, c2', MulB, mn, am, sl, c3, c3', rstD, -il_sl, segOf, ourWindow]
      · rw [if_neg c3]
        have c3' : ¬ (0 : Int) < (againData e).length := by omega
        simp [p_again, b_p_again, b_p_again_1, b_p_again_2, h, c, c2', MulB, mn, am, sl, c3, c3', rstD, -il_sl, segOf, ourWindow]
@[simp] theorem t_unsent (h : l + 3 < θ.length) : p_unsent [.ref l] (upE θ l e) = .ok (.int (unsent e)) (upE θ l e) := by
  simp [p_unsent, b_p_unsent, h, unsent]
@[simp] theorem t_has_new_data (h : l + 3 < θ.length) : p_has_new_data [.ref l] (upE θ l e) = .ok (.bl (hasNewData e)) (upE θ l e) := by
  simp [p_has_new_data, b_p_has_new_data, h, hasNewData]
@[simp] theorem t_has_new_fin (h : l + 3 < θ.length) : p_has_new_fin [.ref l] (upE θ l e) = .ok (.bl (hasNewFin e)) (upE θ l e) := by
  simp [p_has_new_fin, b_p_has_new_fin, h, hasNewFin]
@[simp] theorem t_has_more (h : l + 3 < θ.length) : p_has_more [.ref l] (upE θ l e) = .ok (.bl (hasMore e)) (upE θ l e) := by
  simp [p_has_more, b_p_has_more, h, hasMore]
end
def mn3 (i j k : Int) : Int := if j < i then (if k < j then k else j) else (if k < i then k else i)
def newMany (e : EndS) (room : Int) : Int := mn3 (mostAtOnce e) (unsent e) room
def newData (e : EndS) (room : Int) : Seg × EndS :=
  let e1 := { e with nxt := plus e.nxt (newMany e room) }
  (segOf e1 e.nxt (if unsent e1 = 0 then 8 else 0) (cutL e.written (some (offset e.nxt e.una)) (some (offset e.nxt e.una + newMany e room))), e1)
def newFin (e : EndS) : Seg × EndS := (segOf e e.nxt 1 [], { e with nxt := plus e.nxt 1 })
def newPiece (e : EndS) (room : Int) : Seg × EndS := if hasNewData e = true then newData { e with probes := false } room else newFin { e with probes := false }
def newSyn (e : EndS) (now : Int) : Seg × EndS :=
  let e1 := if e.nxt = e.una then startTimer e now else e
  (paidSyn { e1 with nxt := plus e.first 1 }, { e1 with nxt := plus e.first 1, owes_syn := false })
def goingAsNew (e : EndS) (now : Int) : Option Seg × EndS :=
  if e.state = .synSent ∨ e.state = .synCome then
    if e.nxt = e.first ∨ e.owes_syn = true then (some (newSyn e now).1, (newSyn e now).2) else (none, e)
  else
    if e.wnd - offset e.nxt e.una ≤ 0 ∨ hasMore e = false then (none, e)
    else
      let e1 := if e.nxt = e.una then startTimer e now else e
      (some (newPiece { e1 with owes_answer := false } (e.wnd - offset e.nxt e.una)).1, (newPiece { e1 with owes_answer := false } (e.wnd - offset e.nxt e.una)).2)
def goingAsProbe (e : EndS) (now : Int) : Option Seg × EndS :=
  if ¬ e.nxt = e.una ∨ ¬ e.wnd = 0 ∨ hasMore e = false then (none, { e with probes := false })
  else
    let e1 := if e.probes = true then e else startTimer { e with probes := true } now
    if isDue e1 now = true then (some (newPiece { e1 with since := now } 1).1, (newPiece { e1 with since := now } 1).2) else (none, e1)
def goingAsAnswer (e : EndS) : Option Seg × EndS := if e.owes_answer = true then (some (segOf e e.nxt 0 []), { e with owes_answer := false }) else (none, e)
def goingOn (e : EndS) (now : Int) : Option Seg × EndS :=
  match goingAsNew e now with
  | (some s, e1) => (some s, e1)
  | (none, e1) => match goingAsProbe e1 now with
    | (some s, e2) => (some s, e2)
    | (none, e2) => goingAsAnswer e2
def going (e : EndS) (now : Int) : Option Seg × EndS :=
  match e.owed_reset with
  | some s => (some s, { e with owed_reset := none })
  | none =>
    let e1 := if e.state = .timeWait ∧ 120000 ≤ now - e.since then { e with state := .closed } else e
    if e1.state = .closed ∨ e1.state = .listen then (none, e1)
    else if ¬ e1.nxt = e1.una ∧ isDue e1 now = true then again e1 now
    else goingOn e1 now
section
variable {θ : Sto} {l : Nat} {e : EndS} {now n k : Int}
@[simp] theorem t_new_data {r : Int} (h : l + 3 < θ.length) : p_new_data [.ref l, .int r] (upE θ l e) = .ok (newData e r).1.d (upE θ l (newData e r).2) := by
  have em : (if unsent e < mostAtOnce e then (if r < unsent e then r else unsent e) else (if r < mostAtOnce e then r else mostAtOnce e)) = newMany e r := rfl
  by_cases c : unsent { e with nxt := plus e.nxt (newMany e r) } = 0
  · simp [p_new_data, b_p_new_data, h, em]
    simp [newData, c, segOf, ourWindow, h]
  · simp [p_new_data, b_p_new_data, h, em]
    simp [newData, c, segOf, ourWindow, h]
@[simp] theorem t_new_fin (h : l + 3 < θ.length) : p_new_fin [.ref l] (upE θ l e) = .ok (newFin e).1.d (upE θ l (newFin e).2) := by
  simp [p_new_fin, b_p_new_fin, h, newFin, segOf, ourWindow, il_nil]
@[simp] theorem t_new_piece {r : Int} (h : l + 3 < θ.length) : p_new_piece [.ref l, .int r] (upE θ l e) = .ok (newPiece e r).1.d (upE θ l (newPiece e r).2) := by
  have hp : hasNewData { e with probes := false } = hasNewData e := rfl
  by_cases c : hasNewData e = true
  · simp [p_new_piece, b_p_new_piece, h, newPiece, c, hp]
  · simp [p_new_piece, b_p_new_piece, h, newPiece, c, hp]
@[simp] theorem t_new_syn (h : l + 3 < θ.length) : p_new_syn [.ref l, .int now] (upE θ l e) = .ok (newSyn e now).1.d (upE θ l (newSyn e now).2) := by
  by_cases c : e.nxt = e.una
  · simp [p_new_syn, b_p_new_syn, b_p_new_syn_1, h, newSyn, c, startTimer]
  · simp [p_new_syn, b_p_new_syn, b_p_new_syn_1, h, newSyn, c]
theorem t_going_as_new (h : l + 3 < θ.length) : p_going_as_new [.ref l, .int now] (upE θ l e) = .ok (rstD (goingAsNew e now).1) (upE θ l (goingAsNew e now).2) := by
  by_cases c1 : e.state = .synSent ∨ e.state = .synCome
  · by_cases c2 : e.nxt = e.first ∨ e.owes_syn = true
    · simp [p_going_as_new, b_p_going_as_new, b_p_going_as_new_1, h, goingAsNew, c1, c2, rstD]
    · simp [p_going_as_new, b_p_going_as_new, b_p_going_as_new_1, h, goingAsNew, c1, c2, rstD]
  · by_cases c3 : e.wnd - offset e.nxt e.una ≤ 0
    · simp [p_going_as_new, b_p_going_as_new, b_p_going_as_new_1, b_p_going_as_new_2, h, goingAsNew, c1, c3, rstD]
    · by_cases c4 : hasMore e = true
      · by_cases c5 : e.nxt = e.una
        · have c3' := c3
          rw [c5] at c3'
          simp [p_going_as_new, b_p_going_as_new, b_p_going_as_new_1, b_p_going_as_new_2, b_p_going_as_new_3, h, goingAsNew, c1, c3', c4, c5, rstD, startTimer]
        · simp [p_going_as_new, b_p_going_as_new, b_p_going_as_new_1, b_p_going_as_new_2, b_p_going_as_new_3, h, goingAsNew, c1, c3, c4, c5, rstD]
      · simp [p_going_as_new, b_p_going_as_new, b_p_going_as_new_1, b_p_going_as_new_2, h, goingAsNew, c1, c3, c4, rstD]
theorem t_going_as_probe (h : l + 3 < θ.length) : p_going_as_probe [.ref l, .int now] (upE θ l e) = .ok (rstD (goingAsProbe e now).1) (upE θ l (goingAsProbe e now).2) := by
  by_cases c1 : e.nxt = e.una
  · by_cases c2 : e.wnd = 0
    · by_cases c3 : hasMore e = true
      · by_cases c4 : e.probes = true
        · by_cases c5 : isDue e now = true
          · simp [p_going_as_probe, b_p_going_as_probe, b_p_going_as_probe_1, b_p_going_as_probe_2, b_p_going_as_probe_3, h, goingAsProbe, c1, c2, c3, c4, c5, rstD]
          · simp [p_going_as_probe, b_p_going_as_probe, b_p_going_as_probe_1, b_p_going_as_probe_2, b_p_going_as_probe_3, h, goingAsProbe, c1, c2, c3, c4, c5, rstD]
        · have c5 : isDue (startTimer { e with probes := true } now) now = false := by simp [isDue, startTimer]
          simp [p_going_as_probe, b_p_going_as_probe, b_p_going_as_probe_1, b_p_going_as_probe_2, b_p_going_as_probe_3, h, goingAsProbe, c1, c2, c3, c4, rstD] at c5 ⊢
          simp [c5, isDue, startTimer]
      · simp [p_going_as_probe, b_p_going_as_probe, b_p_going_as_probe_1, h, goingAsProbe, c1, c2, c3, rstD]
    · simp [p_going_as_probe, b_p_going_as_probe, b_p_going_as_probe_1, h, goingAsProbe, c1, c2, rstD]
  · simp [p_going_as_probe, b_p_going_as_probe, b_p_going_as_probe_1, h, goingAsProbe, c1, rstD]
theorem t_going_as_answer (h : l + 3 < θ.length) : p_going_as_answer [.ref l] (upE θ l e) = .ok (rstD (goingAsAnswer e).1) (upE θ l (goingAsAnswer e).2) := by
  by_cases c : e.owes_answer = true
  · simp [p_going_as_answer, b_p_going_as_answer, b_p_going_as_answer_1, h, goingAsAnswer, c, rstD, il_nil, segOf, ourWindow]
  · simp [p_going_as_answer, b_p_going_as_answer, b_p_going_as_answer_1, h, goingAsAnswer, c, rstD]
@[simp] theorem isNon_rst (r : Option Seg) : isNon (rstD r) = r.isNone := by cases r <;> rfl
@[simp] theorem rstD_none : rstD none = .non := rfl
@[simp] theorem rstD_some (s : Seg) : rstD (some s) = s.d := rfl
@[simp] theorem isNon_d (s : Seg) : isNon s.d = false := rfl
@[simp] theorem isNon_non : isNon .non = true := nr rfl
@[simp] theorem isNon_int (i : Int) : isNon (.int i) = false := nr rfl
@[simp] theorem isNon_ref (i : Nat) : isNon (.ref i) = false := nr rfl
@[simp] theorem s_owed_none (h : l + 3 < θ.length) (e : EndS) : setK ["End"] "owed_reset" .non (.ref l) (upE θ l e) = some (upE θ l { e with owed_reset := none }) := s_owed_reset h e none
@[simp] theorem s_owed_some (h : l + 3 < θ.length) (e : EndS) (s : Seg) : setK ["End"] "owed_reset" s.d (.ref l) (upE θ l e) = some (upE θ l { e with owed_reset := some s }) := s_owed_reset h e (some s)
theorem t_goingOn (h : l + 3 < θ.length) (x : Sl) : thenS (mSet 2 (mCB p_going_as_new (mCons (mVar 0) (mCons (mVar 1) mNil))) [.val (.ref l), .val (.int now), x] (upE θ l e)) (mSeq b_p_going_5 (mSeq b_p_going_6 (mRet (mVar 2)))) =
    .ok (.rt (rstD (goingOn e now).1), [.val (.ref l), .val (.int now), .val (rstD (goingOn e now).1)]) (upE θ l (goingOn e now).2) := by
  unfold goingOn
  cases c1 : goingAsNew e now with
  | mk r1 e1 =>
    cases r1 with
    | some s => simp [h, t_going_as_new, c1, b_p_going_5, b_p_going_6]
    | none =>
      cases c2 : goingAsProbe e1 now with
      | mk r2 e2 =>
        cases r2 with
        | some s => simp [h, t_going_as_new, c1, b_p_going_5, b_p_going_6, t_going_as_probe, c2]
        | none => simp [h, t_going_as_new, c1, b_p_going_5, b_p_going_6, t_going_as_probe, c2, t_going_as_answer]
theorem t_going (h : l + 3 < θ.length) : p_going [.ref l, .int now] (upE θ l e) = .ok (rstD (going e now).1) (upE θ l (going e now).2) := by
  cases c0 : e.owed_reset with
  | some s => simp [p_going, b_p_going, b_p_going_1, h, going, c0, p_paid_reset, b_p_paid_reset]
  | none =>
    have key : ∀ e1 : EndS, (thenS (b_p_going_3 [.val (.ref l), .val (.int now), .no] (upE θ l e1)) (mSeq b_p_going_4 (mSeq (mSet 2 (mCB p_going_as_new (mCons (mVar 0) (mCons (mVar 1) mNil)))) (mSeq b_p_going_5 (mSeq b_p_going_6 (mRet (mVar 2))))))).bind (fun p θ => match p.1 with | .nx => .ok .non θ | .rt d => .ok d θ | _ => .bad) =
        .ok (rstD (if e1.state = .closed ∨ e1.state = .listen then (none, e1) else if ¬ e1.nxt = e1.una ∧ isDue e1 now = true then again e1 now else goingOn e1 now).1) (upE θ l (if e1.state = .closed ∨ e1.state = .listen then (none, e1) else if ¬ e1.nxt = e1.una ∧ isDue e1 now = true then again e1 now else goingOn e1 now).2) := fun e1 => by
      by_cases c1 : e1.state = .closed ∨ e1.state = .listen
      · simp [b_p_going_3, h, c1]
      · by_cases c2 : e1.nxt = e1.una
        · have g := t_goingOn (e := e1) (now := now) h .no
          simp at g
          simp [b_p_going_3, b_p_going_4, h, c1, c2]
          rw [g]
          simp
        · by_cases c3 : isDue e1 now = true
          · simp [b_p_going_3, b_p_going_4, h, c1, c2, c3, t_again]
          · have g := t_goingOn (e := e1) (now := now) h .no
            simp at g
            simp [b_p_going_3, b_p_going_4, h, c1, c2, c3]
            rw [g]
            simp
    by_cases c1 : e.state = .timeWait ∧ 120000 ≤ now - e.since
    · have := key { e with state := .closed }
      simp [p_going, b_p_going, b_p_going_1, b_p_going_2, h, going, c0, c1] at this ⊢
      exact this
    · have := key e
      simp [p_going, b_p_going, b_p_going_1, b_p_going_2, h, going, c0, c1] at this ⊢
      exact this
def sendRow (e : EndS) (now : Int) : List Int := match (going e now).1 with
  | none => []
  | some s => putL s
theorem t_send (h : l + 3 < θ.length) (hp : ∀ s, (going e now).1 = some s → s.Put) : p_send [.ref l, .int now] (upE θ l e) = .ok (il (sendRow e now)) (upE θ l (going e now).2) := by
  unfold sendRow
  cases c : (going e now).1 with
  | none => simp [p_send, b_p_send, t_going, h, c, il_nil]
  | some s => simp [p_send, b_p_send, t_going, h, c, t_put (hp s c)]
def newEnd (ours theirs first : Int) (active : Bool) : EndS := ⟨ours, theirs, if active then .synSent else .listen, .none, first, first, first, 0, 0, 0, 0, 12, [], [], [], none, false, plus first 1, none, false, false, false, 0, 1000, 0⟩
def cells (l : Nat) (e : EndS) : Sto := [c0 l e, c1 e, c2 e, c3 e]
theorem insOf_app (θ r : Sto) (C : Str) (fs : List (Str × D)) : insOf (θ ++ .ins C fs :: r) (.ref θ.length) = some (θ.length, C, fs) := by
  show (match (θ ++ .ins C fs :: r)[θ.length]? with | some (Cell.ins C fs) => some (θ.length, C, fs) | _ => none) = _
  rw [List.getElem?_append_right (Nat.le_refl _), Nat.sub_self]
  rfl
theorem putFD_new {f : Str} {y : D} : ∀ {fs : List (Str × D)}, (fs.map Prod.fst).contains f = false → putFD f y fs = fs ++ [(f, y)]
  | [], _ => rfl
  | (g, x) :: r, h => by
    rw [List.map_cons, List.contains_cons, Bool.or_eq_false_iff] at h
    have hn : ¬ g = f := fun e => by rw [e, beq_self_eq_true] at h; cases h.1
    unfold putFD
    rw [if_neg hn, putFD_new h.2]
    rfl
theorem setK_new {C f : Str} {y : D} (θ r : Sto) {fs : List (Str × D)} (h0 : [C].contains C = true) (h1 : (fs.map Prod.fst).contains f = false) (h2 : fs.length < 1000) : setK [C] f y (.ref θ.length) (θ ++ .ins C fs :: r) = some (θ ++ .ins C (fs ++ [(f, y)]) :: r) := by
  unfold setK
  rw [insOf_app]
  simp only [h0]
  rw [if_pos ⟨trivial, h2⟩, putFD_new h1]
  congr 1
  rw [List.set_append, if_neg (Nat.lt_irrefl _), Nat.sub_self]
  rfl
theorem mk_pile (S : Sto) : mkG "Pile" p_Pile_init [] S = .ok (.ref S.length) (S ++ [.ins "Pile" [("row", il [])]]) := by
  have := setK_new (C := "Pile") (f := "row") (y := il []) S [] (fs := []) (by decide +kernel) rfl (by decide)
  simp [mkG, p_Pile_init, b_p_Pile_init, il_nil, this]
theorem o_ours (θ r : Sto) (y : D) : setK ["End"] "ours" y (.ref θ.length) (θ ++ .ins "End" [] :: r) = some (θ ++ .ins "End" [("ours", y)] :: r) := setK_new θ r ce (by simp only [List.map_cons, List.map_nil]; decide +kernel) (by simp only [List.length_cons, List.length_nil]; decide)
theorem o_theirs (θ r : Sto) (x0 y : D) : setK ["End"] "theirs" y (.ref θ.length) (θ ++ .ins "End" [("ours", x0)] :: r) = some (θ ++ .ins "End" [("ours", x0), ("theirs", y)] :: r) := setK_new θ r ce (by simp only [List.map_cons, List.map_nil]; decide +kernel) (by simp only [List.length_cons, List.length_nil]; decide)
theorem o_state (θ r : Sto) (x0 x1 y : D) : setK ["End"] "state" y (.ref θ.length) (θ ++ .ins "End" [("ours", x0), ("theirs", x1)] :: r) = some (θ ++ .ins "End" [("ours", x0), ("theirs", x1), ("state", y)] :: r) := setK_new θ r ce (by simp only [List.map_cons, List.map_nil]; decide +kernel) (by simp only [List.length_cons, List.length_nil]; decide)
theorem o_error (θ r : Sto) (x0 x1 x2 y : D) : setK ["End"] "error" y (.ref θ.length) (θ ++ .ins "End" [("ours", x0), ("theirs", x1), ("state", x2)] :: r) = some (θ ++ .ins "End" [("ours", x0), ("theirs", x1), ("state", x2), ("error", y)] :: r) := setK_new θ r ce (by simp only [List.map_cons, List.map_nil]; decide +kernel) (by simp only [List.length_cons, List.length_nil]; decide)
theorem o_first (θ r : Sto) (x0 x1 x2 x3 y : D) : setK ["End"] "first" y (.ref θ.length) (θ ++ .ins "End" [("ours", x0), ("theirs", x1), ("state", x2), ("error", x3)] :: r) = some (θ ++ .ins "End" [("ours", x0), ("theirs", x1), ("state", x2), ("error", x3), ("first", y)] :: r) := setK_new θ r ce (by simp only [List.map_cons, List.map_nil]; decide +kernel) (by simp only [List.length_cons, List.length_nil]; decide)
theorem o_una (θ r : Sto) (x0 x1 x2 x3 x4 y : D) : setK ["End"] "una" y (.ref θ.length) (θ ++ .ins "End" [("ours", x0), ("theirs", x1), ("state", x2), ("error", x3), ("first", x4)] :: r) = some (θ ++ .ins "End" [("ours", x0), ("theirs", x1), ("state", x2), ("error", x3), ("first", x4), ("una", y)] :: r) := setK_new θ r ce (by simp only [List.map_cons, List.map_nil]; decide +kernel) (by simp only [List.length_cons, List.length_nil]; decide)
theorem o_nxt (θ r : Sto) (x0 x1 x2 x3 x4 x5 y : D) : setK ["End"] "nxt" y (.ref θ.length) (θ ++ .ins "End" [("ours", x0), ("theirs", x1), ("state", x2), ("error", x3), ("first", x4), ("una", x5)] :: r) = some (θ ++ .ins "End" [("ours", x0), ("theirs", x1), ("state", x2), ("error", x3), ("first", x4), ("una", x5), ("nxt", y)] :: r) := setK_new θ r ce (by simp only [List.map_cons, List.map_nil]; decide +kernel) (by simp only [List.length_cons, List.length_nil]; decide)
theorem o_rcv (θ r : Sto) (x0 x1 x2 x3 x4 x5 x6 y : D) : setK ["End"] "rcv" y (.ref θ.length) (θ ++ .ins "End" [("ours", x0), ("theirs", x1), ("state", x2), ("error", x3), ("first", x4), ("una", x5), ("nxt", x6)] :: r) = some (θ ++ .ins "End" [("ours", x0), ("theirs", x1), ("state", x2), ("error", x3), ("first", x4), ("una", x5), ("nxt", x6), ("rcv", y)] :: r) := setK_new θ r ce (by simp only [List.map_cons, List.map_nil]; decide +kernel) (by simp only [List.length_cons, List.length_nil]; decide)
theorem o_wnd (θ r : Sto) (x0 x1 x2 x3 x4 x5 x6 x7 y : D) : setK ["End"] "wnd" y (.ref θ.length) (θ ++ .ins "End" [("ours", x0), ("theirs", x1), ("state", x2), ("error", x3), ("first", x4), ("una", x5), ("nxt", x6), ("rcv", x7)] :: r) = some (θ ++ .ins "End" [("ours", x0), ("theirs", x1), ("state", x2), ("error", x3), ("first", x4), ("una", x5), ("nxt", x6), ("rcv", x7), ("wnd", y)] :: r) := setK_new θ r ce (by simp only [List.map_cons, List.map_nil]; decide +kernel) (by simp only [List.length_cons, List.length_nil]; decide)
theorem o_told (θ r : Sto) (x0 x1 x2 x3 x4 x5 x6 x7 x8 y : D) : setK ["End"] "told" y (.ref θ.length) (θ ++ .ins "End" [("ours", x0), ("theirs", x1), ("state", x2), ("error", x3), ("first", x4), ("una", x5), ("nxt", x6), ("rcv", x7), ("wnd", x8)] :: r) = some (θ ++ .ins "End" [("ours", x0), ("theirs", x1), ("state", x2), ("error", x3), ("first", x4), ("una", x5), ("nxt", x6), ("rcv", x7), ("wnd", x8), ("told", y)] :: r) := setK_new θ r ce (by simp only [List.map_cons, List.map_nil]; decide +kernel) (by simp only [List.length_cons, List.length_nil]; decide)
theorem o_told_by (θ r : Sto) (x0 x1 x2 x3 x4 x5 x6 x7 x8 x9 y : D) : setK ["End"] "told_by" y (.ref θ.length) (θ ++ .ins "End" [("ours", x0), ("theirs", x1), ("state", x2), ("error", x3), ("first", x4), ("una", x5), ("nxt", x6), ("rcv", x7), ("wnd", x8), ("told", x9)] :: r) = some (θ ++ .ins "End" [("ours", x0), ("theirs", x1), ("state", x2), ("error", x3), ("first", x4), ("una", x5), ("nxt", x6), ("rcv", x7), ("wnd", x8), ("told", x9), ("told_by", y)] :: r) := setK_new θ r ce (by simp only [List.map_cons, List.map_nil]; decide +kernel) (by simp only [List.length_cons, List.length_nil]; decide)
theorem o_most (θ r : Sto) (x0 x1 x2 x3 x4 x5 x6 x7 x8 x9 x10 y : D) : setK ["End"] "most" y (.ref θ.length) (θ ++ .ins "End" [("ours", x0), ("theirs", x1), ("state", x2), ("error", x3), ("first", x4), ("una", x5), ("nxt", x6), ("rcv", x7), ("wnd", x8), ("told", x9), ("told_by", x10)] :: r) = some (θ ++ .ins "End" [("ours", x0), ("theirs", x1), ("state", x2), ("error", x3), ("first", x4), ("una", x5), ("nxt", x6), ("rcv", x7), ("wnd", x8), ("told", x9), ("told_by", x10), ("most", y)] :: r) := setK_new θ r ce (by simp only [List.map_cons, List.map_nil]; decide +kernel) (by simp only [List.length_cons, List.length_nil]; decide)
theorem o_written (θ r : Sto) (x0 x1 x2 x3 x4 x5 x6 x7 x8 x9 x10 x11 y : D) : setK ["End"] "written" y (.ref θ.length) (θ ++ .ins "End" [("ours", x0), ("theirs", x1), ("state", x2), ("error", x3), ("first", x4), ("una", x5), ("nxt", x6), ("rcv", x7), ("wnd", x8), ("told", x9), ("told_by", x10), ("most", x11)] :: r) = some (θ ++ .ins "End" [("ours", x0), ("theirs", x1), ("state", x2), ("error", x3), ("first", x4), ("una", x5), ("nxt", x6), ("rcv", x7), ("wnd", x8), ("told", x9), ("told_by", x10), ("most", x11), ("written", y)] :: r) := setK_new θ r ce (by simp only [List.map_cons, List.map_nil]; decide +kernel) (by simp only [List.length_cons, List.length_nil]; decide)
theorem o_come (θ r : Sto) (x0 x1 x2 x3 x4 x5 x6 x7 x8 x9 x10 x11 x12 y : D) : setK ["End"] "come" y (.ref θ.length) (θ ++ .ins "End" [("ours", x0), ("theirs", x1), ("state", x2), ("error", x3), ("first", x4), ("una", x5), ("nxt", x6), ("rcv", x7), ("wnd", x8), ("told", x9), ("told_by", x10), ("most", x11), ("written", x12)] :: r) = some (θ ++ .ins "End" [("ours", x0), ("theirs", x1), ("state", x2), ("error", x3), ("first", x4), ("una", x5), ("nxt", x6), ("rcv", x7), ("wnd", x8), ("told", x9), ("told_by", x10), ("most", x11), ("written", x12), ("come", y)] :: r) := setK_new θ r ce (by simp only [List.map_cons, List.map_nil]; decide +kernel) (by simp only [List.length_cons, List.length_nil]; decide)
theorem o_early (θ r : Sto) (x0 x1 x2 x3 x4 x5 x6 x7 x8 x9 x10 x11 x12 x13 y : D) : setK ["End"] "early" y (.ref θ.length) (θ ++ .ins "End" [("ours", x0), ("theirs", x1), ("state", x2), ("error", x3), ("first", x4), ("una", x5), ("nxt", x6), ("rcv", x7), ("wnd", x8), ("told", x9), ("told_by", x10), ("most", x11), ("written", x12), ("come", x13)] :: r) = some (θ ++ .ins "End" [("ours", x0), ("theirs", x1), ("state", x2), ("error", x3), ("first", x4), ("una", x5), ("nxt", x6), ("rcv", x7), ("wnd", x8), ("told", x9), ("told_by", x10), ("most", x11), ("written", x12), ("come", x13), ("early", y)] :: r) := setK_new θ r ce (by simp only [List.map_cons, List.map_nil]; decide +kernel) (by simp only [List.length_cons, List.length_nil]; decide)
theorem o_early_fin (θ r : Sto) (x0 x1 x2 x3 x4 x5 x6 x7 x8 x9 x10 x11 x12 x13 x14 y : D) : setK ["End"] "early_fin" y (.ref θ.length) (θ ++ .ins "End" [("ours", x0), ("theirs", x1), ("state", x2), ("error", x3), ("first", x4), ("una", x5), ("nxt", x6), ("rcv", x7), ("wnd", x8), ("told", x9), ("told_by", x10), ("most", x11), ("written", x12), ("come", x13), ("early", x14)] :: r) = some (θ ++ .ins "End" [("ours", x0), ("theirs", x1), ("state", x2), ("error", x3), ("first", x4), ("una", x5), ("nxt", x6), ("rcv", x7), ("wnd", x8), ("told", x9), ("told_by", x10), ("most", x11), ("written", x12), ("come", x13), ("early", x14), ("early_fin", y)] :: r) := setK_new θ r ce (by simp only [List.map_cons, List.map_nil]; decide +kernel) (by simp only [List.length_cons, List.length_nil]; decide)
theorem o_has_closed (θ r : Sto) (x0 x1 x2 x3 x4 x5 x6 x7 x8 x9 x10 x11 x12 x13 x14 x15 y : D) : setK ["End"] "has_closed" y (.ref θ.length) (θ ++ .ins "End" [("ours", x0), ("theirs", x1), ("state", x2), ("error", x3), ("first", x4), ("una", x5), ("nxt", x6), ("rcv", x7), ("wnd", x8), ("told", x9), ("told_by", x10), ("most", x11), ("written", x12), ("come", x13), ("early", x14), ("early_fin", x15)] :: r) = some (θ ++ .ins "End" [("ours", x0), ("theirs", x1), ("state", x2), ("error", x3), ("first", x4), ("una", x5), ("nxt", x6), ("rcv", x7), ("wnd", x8), ("told", x9), ("told_by", x10), ("most", x11), ("written", x12), ("come", x13), ("early", x14), ("early_fin", x15), ("has_closed", y)] :: r) := setK_new θ r ce (by simp only [List.map_cons, List.map_nil]; decide +kernel) (by simp only [List.length_cons, List.length_nil]; decide)
theorem o_behind (θ r : Sto) (x0 x1 x2 x3 x4 x5 x6 x7 x8 x9 x10 x11 x12 x13 x14 x15 x16 y : D) : setK ["End"] "behind" y (.ref θ.length) (θ ++ .ins "End" [("ours", x0), ("theirs", x1), ("state", x2), ("error", x3), ("first", x4), ("una", x5), ("nxt", x6), ("rcv", x7), ("wnd", x8), ("told", x9), ("told_by", x10), ("most", x11), ("written", x12), ("come", x13), ("early", x14), ("early_fin", x15), ("has_closed", x16)] :: r) = some (θ ++ .ins "End" [("ours", x0), ("theirs", x1), ("state", x2), ("error", x3), ("first", x4), ("una", x5), ("nxt", x6), ("rcv", x7), ("wnd", x8), ("told", x9), ("told_by", x10), ("most", x11), ("written", x12), ("come", x13), ("early", x14), ("early_fin", x15), ("has_closed", x16), ("behind", y)] :: r) := setK_new θ r ce (by simp only [List.map_cons, List.map_nil]; decide +kernel) (by simp only [List.length_cons, List.length_nil]; decide)
theorem o_owed_reset (θ r : Sto) (x0 x1 x2 x3 x4 x5 x6 x7 x8 x9 x10 x11 x12 x13 x14 x15 x16 x17 y : D) : setK ["End"] "owed_reset" y (.ref θ.length) (θ ++ .ins "End" [("ours", x0), ("theirs", x1), ("state", x2), ("error", x3), ("first", x4), ("una", x5), ("nxt", x6), ("rcv", x7), ("wnd", x8), ("told", x9), ("told_by", x10), ("most", x11), ("written", x12), ("come", x13), ("early", x14), ("early_fin", x15), ("has_closed", x16), ("behind", x17)] :: r) = some (θ ++ .ins "End" [("ours", x0), ("theirs", x1), ("state", x2), ("error", x3), ("first", x4), ("una", x5), ("nxt", x6), ("rcv", x7), ("wnd", x8), ("told", x9), ("told_by", x10), ("most", x11), ("written", x12), ("come", x13), ("early", x14), ("early_fin", x15), ("has_closed", x16), ("behind", x17), ("owed_reset", y)] :: r) := setK_new θ r ce (by simp only [List.map_cons, List.map_nil]; decide +kernel) (by simp only [List.length_cons, List.length_nil]; decide)
theorem o_owes_syn (θ r : Sto) (x0 x1 x2 x3 x4 x5 x6 x7 x8 x9 x10 x11 x12 x13 x14 x15 x16 x17 x18 y : D) : setK ["End"] "owes_syn" y (.ref θ.length) (θ ++ .ins "End" [("ours", x0), ("theirs", x1), ("state", x2), ("error", x3), ("first", x4), ("una", x5), ("nxt", x6), ("rcv", x7), ("wnd", x8), ("told", x9), ("told_by", x10), ("most", x11), ("written", x12), ("come", x13), ("early", x14), ("early_fin", x15), ("has_closed", x16), ("behind", x17), ("owed_reset", x18)] :: r) = some (θ ++ .ins "End" [("ours", x0), ("theirs", x1), ("state", x2), ("error", x3), ("first", x4), ("una", x5), ("nxt", x6), ("rcv", x7), ("wnd", x8), ("told", x9), ("told_by", x10), ("most", x11), ("written", x12), ("come", x13), ("early", x14), ("early_fin", x15), ("has_closed", x16), ("behind", x17), ("owed_reset", x18), ("owes_syn", y)] :: r) := setK_new θ r ce (by simp only [List.map_cons, List.map_nil]; decide +kernel) (by simp only [List.length_cons, List.length_nil]; decide)
theorem o_owes_answer (θ r : Sto) (x0 x1 x2 x3 x4 x5 x6 x7 x8 x9 x10 x11 x12 x13 x14 x15 x16 x17 x18 x19 y : D) : setK ["End"] "owes_answer" y (.ref θ.length) (θ ++ .ins "End" [("ours", x0), ("theirs", x1), ("state", x2), ("error", x3), ("first", x4), ("una", x5), ("nxt", x6), ("rcv", x7), ("wnd", x8), ("told", x9), ("told_by", x10), ("most", x11), ("written", x12), ("come", x13), ("early", x14), ("early_fin", x15), ("has_closed", x16), ("behind", x17), ("owed_reset", x18), ("owes_syn", x19)] :: r) = some (θ ++ .ins "End" [("ours", x0), ("theirs", x1), ("state", x2), ("error", x3), ("first", x4), ("una", x5), ("nxt", x6), ("rcv", x7), ("wnd", x8), ("told", x9), ("told_by", x10), ("most", x11), ("written", x12), ("come", x13), ("early", x14), ("early_fin", x15), ("has_closed", x16), ("behind", x17), ("owed_reset", x18), ("owes_syn", x19), ("owes_answer", y)] :: r) := setK_new θ r ce (by simp only [List.map_cons, List.map_nil]; decide +kernel) (by simp only [List.length_cons, List.length_nil]; decide)
theorem o_probes (θ r : Sto) (x0 x1 x2 x3 x4 x5 x6 x7 x8 x9 x10 x11 x12 x13 x14 x15 x16 x17 x18 x19 x20 y : D) : setK ["End"] "probes" y (.ref θ.length) (θ ++ .ins "End" [("ours", x0), ("theirs", x1), ("state", x2), ("error", x3), ("first", x4), ("una", x5), ("nxt", x6), ("rcv", x7), ("wnd", x8), ("told", x9), ("told_by", x10), ("most", x11), ("written", x12), ("come", x13), ("early", x14), ("early_fin", x15), ("has_closed", x16), ("behind", x17), ("owed_reset", x18), ("owes_syn", x19), ("owes_answer", x20)] :: r) = some (θ ++ .ins "End" [("ours", x0), ("theirs", x1), ("state", x2), ("error", x3), ("first", x4), ("una", x5), ("nxt", x6), ("rcv", x7), ("wnd", x8), ("told", x9), ("told_by", x10), ("most", x11), ("written", x12), ("come", x13), ("early", x14), ("early_fin", x15), ("has_closed", x16), ("behind", x17), ("owed_reset", x18), ("owes_syn", x19), ("owes_answer", x20), ("probes", y)] :: r) := setK_new θ r ce (by simp only [List.map_cons, List.map_nil]; decide +kernel) (by simp only [List.length_cons, List.length_nil]; decide)
theorem o_since (θ r : Sto) (x0 x1 x2 x3 x4 x5 x6 x7 x8 x9 x10 x11 x12 x13 x14 x15 x16 x17 x18 x19 x20 x21 y : D) : setK ["End"] "since" y (.ref θ.length) (θ ++ .ins "End" [("ours", x0), ("theirs", x1), ("state", x2), ("error", x3), ("first", x4), ("una", x5), ("nxt", x6), ("rcv", x7), ("wnd", x8), ("told", x9), ("told_by", x10), ("most", x11), ("written", x12), ("come", x13), ("early", x14), ("early_fin", x15), ("has_closed", x16), ("behind", x17), ("owed_reset", x18), ("owes_syn", x19), ("owes_answer", x20), ("probes", x21)] :: r) = some (θ ++ .ins "End" [("ours", x0), ("theirs", x1), ("state", x2), ("error", x3), ("first", x4), ("una", x5), ("nxt", x6), ("rcv", x7), ("wnd", x8), ("told", x9), ("told_by", x10), ("most", x11), ("written", x12), ("come", x13), ("early", x14), ("early_fin", x15), ("has_closed", x16), ("behind", x17), ("owed_reset", x18), ("owes_syn", x19), ("owes_answer", x20), ("probes", x21), ("since", y)] :: r) := setK_new θ r ce (by simp only [List.map_cons, List.map_nil]; decide +kernel) (by simp only [List.length_cons, List.length_nil]; decide)
theorem o_wait (θ r : Sto) (x0 x1 x2 x3 x4 x5 x6 x7 x8 x9 x10 x11 x12 x13 x14 x15 x16 x17 x18 x19 x20 x21 x22 y : D) : setK ["End"] "wait" y (.ref θ.length) (θ ++ .ins "End" [("ours", x0), ("theirs", x1), ("state", x2), ("error", x3), ("first", x4), ("una", x5), ("nxt", x6), ("rcv", x7), ("wnd", x8), ("told", x9), ("told_by", x10), ("most", x11), ("written", x12), ("come", x13), ("early", x14), ("early_fin", x15), ("has_closed", x16), ("behind", x17), ("owed_reset", x18), ("owes_syn", x19), ("owes_answer", x20), ("probes", x21), ("since", x22)] :: r) = some (θ ++ .ins "End" [("ours", x0), ("theirs", x1), ("state", x2), ("error", x3), ("first", x4), ("una", x5), ("nxt", x6), ("rcv", x7), ("wnd", x8), ("told", x9), ("told_by", x10), ("most", x11), ("written", x12), ("come", x13), ("early", x14), ("early_fin", x15), ("has_closed", x16), ("behind", x17), ("owed_reset", x18), ("owes_syn", x19), ("owes_answer", x20), ("probes", x21), ("since", x22), ("wait", y)] :: r) := setK_new θ r ce (by simp only [List.map_cons, List.map_nil]; decide +kernel) (by simp only [List.length_cons, List.length_nil]; decide)
theorem o_tries (θ r : Sto) (x0 x1 x2 x3 x4 x5 x6 x7 x8 x9 x10 x11 x12 x13 x14 x15 x16 x17 x18 x19 x20 x21 x22 x23 y : D) : setK ["End"] "tries" y (.ref θ.length) (θ ++ .ins "End" [("ours", x0), ("theirs", x1), ("state", x2), ("error", x3), ("first", x4), ("una", x5), ("nxt", x6), ("rcv", x7), ("wnd", x8), ("told", x9), ("told_by", x10), ("most", x11), ("written", x12), ("come", x13), ("early", x14), ("early_fin", x15), ("has_closed", x16), ("behind", x17), ("owed_reset", x18), ("owes_syn", x19), ("owes_answer", x20), ("probes", x21), ("since", x22), ("wait", x23)] :: r) = some (θ ++ .ins "End" [("ours", x0), ("theirs", x1), ("state", x2), ("error", x3), ("first", x4), ("una", x5), ("nxt", x6), ("rcv", x7), ("wnd", x8), ("told", x9), ("told_by", x10), ("most", x11), ("written", x12), ("come", x13), ("early", x14), ("early_fin", x15), ("has_closed", x16), ("behind", x17), ("owed_reset", x18), ("owes_syn", x19), ("owes_answer", x20), ("probes", x21), ("since", x22), ("wait", x23), ("tries", y)] :: r) := setK_new θ r ce (by simp only [List.map_cons, List.map_nil]; decide +kernel) (by simp only [List.length_cons, List.length_nil]; decide)
theorem t_init {a b c : Int} {act : Bool} (θ : Sto) : p_End_init [.ref θ.length, .int a, .int b, .int c, .bl act] (θ ++ [.ins "End" []]) = .ok .non (θ ++ cells θ.length (newEnd a b c act)) := by
  cases act with
  | true =>
    simp [p_End_init, b_p_End_init, mk_pile, o_ours, o_theirs, o_state, o_error, o_first, o_una, o_nxt, o_rcv, o_wnd, o_told, o_told_by, o_most, o_written, o_come, o_early, o_early_fin, o_has_closed, o_behind, o_owed_reset, o_owes_syn, o_owes_answer, o_probes, o_since, o_wait, o_tries]
    rfl
  | false =>
    simp [p_End_init, b_p_End_init, mk_pile, o_ours, o_theirs, o_state, o_error, o_first, o_una, o_nxt, o_rcv, o_wnd, o_told, o_told_by, o_most, o_written, o_come, o_early, o_early_fin, o_has_closed, o_behind, o_owed_reset, o_owes_syn, o_owes_answer, o_probes, o_since, o_wait, o_tries]
    rfl
theorem t_opened {a b c : Int} {act : Bool} (θ : Sto) : p_opened [.int a, .int b, .int c, .bl act] θ = .ok (.ref θ.length) (θ ++ cells θ.length (newEnd a b c act)) := by
  simp [p_opened, b_p_opened, mkG, t_init]
theorem cells_up (e : EndS) : cells 0 e = upE (cells 0 e) 0 e := by
  simp [cells, upE]
end
end
end My
set_option Elab.async false
set_option linter.all false
set_option maxRecDepth 100000
set_option maxHeartbeats 4000000
namespace My
open PySem L2 L2.MM
noncomputable section
def b_p_bears : SM := (mRet (mOp eqM (mCB p_has (mCons (mOp ixM (mVar 0) (mC (.int 4))) (mCons (mVar 1) mNil))) (mC (.int 1))))
def p_bears : GM := mDef 2 2 b_p_bears
def b_p_reset_for_1 : SM := (mIf (mTru (mCB p_bears (mCons (mVar 0) (mCons (mC (.int 16)) mNil)))) (mRet (mOp addM (mVar 1) (mTup (mCons (mOp ixM (mVar 0) (mC (.int 3))) (mCons (mC (.int 0)) (mCons (mC (.int 4)) (mCons (mC (.int 0)) (mCons (mC (.int 0)) (mCons (mTup mNil) mNil))))))))) mSkip)
def b_p_reset_for : SM := (mSeq (mSet 1 (mTup (mCons (mOp ixM (mVar 0) (mC (.int 1))) (mCons (mOp ixM (mVar 0) (mC (.int 0))) mNil))))
  (mSeq b_p_reset_for_1
  (mRet (mOp addM (mVar 1) (mTup (mCons (mC (.int 0)) (mCons (mCB p_plus (mCons (mOp ixM (mVar 0) (mC (.int 2))) (mCons (mCB p_length (mCons (mVar 0) mNil)) mNil))) (mCons (mOp addM (mC (.int 4)) (mC (.int 16))) (mCons (mC (.int 0)) (mCons (mC (.int 0)) (mCons (mTup mNil) mNil)))))))))))
def p_reset_for : GM := mDef 1 2 b_p_reset_for
def b_p_owe_reset_for_1 : SM := (mIf (mNot (mTru (mCB p_bears (mCons (mVar 1) (mCons (mC (.int 4)) mNil))))) (mSetF ["End"] "owed_reset" (mVar 0) (mCB p_reset_for (mCons (mVar 1) mNil))) mSkip)
def b_p_owe_reset_for : SM := b_p_owe_reset_for_1
def p_owe_reset_for : GM := mDef 2 2 b_p_owe_reset_for
def b_p_come_to_closed : SM := (mExpr (mCB p_owe_reset_for (mCons (mVar 0) (mCons (mVar 1) mNil))))
def p_come_to_closed : GM := mDef 2 2 b_p_come_to_closed
def b_p_hear_syn_1 : SM := (mIf (mTest (mOp neM (mOp ixM (mVar 1) (mC (.int 6))) (mC (.int 0)))) (mSetF ["End"] "most" (mVar 0) (mOp ixM (mVar 1) (mC (.int 6)))) mSkip)
def b_p_hear_syn : SM := (mSeq (mSetF ["End"] "rcv" (mVar 0) (mCB p_plus (mCons (mOp ixM (mVar 1) (mC (.int 2))) (mCons (mC (.int 1)) mNil))))
  (mSeq (mSetF ["End"] "wnd" (mVar 0) (mOp ixM (mVar 1) (mC (.int 5))))
  (mSeq (mSetF ["End"] "told" (mVar 0) (mOp ixM (mVar 1) (mC (.int 2))))
  (mSeq (mSetF ["End"] "told_by" (mVar 0) (mIte (mTru (mCB p_bears (mCons (mVar 1) (mCons (mC (.int 16)) mNil)))) (mOp ixM (mVar 1) (mC (.int 3))) (mC (.int 0))))
  b_p_hear_syn_1))))
def p_hear_syn : GM := mDef 2 2 b_p_hear_syn
def b_p_come_to_listen_1 : SM := (mIf (mTru (mCB p_bears (mCons (mVar 1) (mCons (mC (.int 4)) mNil)))) mRetN mSkip)
def b_p_come_to_listen_2 : SM := (mIf (mTru (mCB p_bears (mCons (mVar 1) (mCons (mC (.int 2)) mNil)))) (mSeq (mSetF ["End"] "theirs" (mVar 0) (mOp ixM (mVar 1) (mC (.int 0))))
      (mSeq (mExpr (mCB p_hear_syn (mCons (mVar 0) (mCons (mVar 1) mNil))))
      (mSetF ["End"] "state" (mVar 0) (mC (.str "syn come"))))) mSkip)
def b_p_come_to_listen_3 : SM := (mIf (mTru (mCB p_bears (mCons (mVar 1) (mCons (mC (.int 16)) mNil)))) (mExpr (mCB p_owe_reset_for (mCons (mVar 0) (mCons (mVar 1) mNil)))) b_p_come_to_listen_2)
def b_p_come_to_listen : SM := (mSeq b_p_come_to_listen_1
  b_p_come_to_listen_3)
def p_come_to_listen : GM := mDef 2 2 b_p_come_to_listen
def b_p_answers_syn : SM := (mRet (mAndV (mOp neM (mFld ["End"] "nxt" (mVar 0)) (mFld ["End"] "first" (mVar 0))) (mOp eqM (mOp ixM (mVar 1) (mC (.int 3))) (mCB p_plus (mCons (mFld ["End"] "first" (mVar 0)) (mCons (mC (.int 1)) mNil))))))
def p_answers_syn : GM := mDef 2 2 b_p_answers_syn
def b_p_go_on_from_syn_sent_1 : SM := (mIf (mTru (mCB p_bears (mCons (mVar 1) (mCons (mC (.int 16)) mNil)))) (mSeq (mSetF ["End"] "una" (mVar 0) (mOp ixM (mVar 1) (mC (.int 3))))
    (mSeq (mSetF ["End"] "state" (mVar 0) (mC (.str "open")))
    (mSetF ["End"] "owes_answer" (mVar 0) (mC (.bl true))))) (mSeq (mSetF ["End"] "state" (mVar 0) (mC (.str "syn come")))
    (mSeq (mExpr (mCB p_start_timer (mCons (mVar 0) (mCons (mVar 2) mNil))))
    (mSetF ["End"] "owes_syn" (mVar 0) (mC (.bl true))))))
def b_p_go_on_from_syn_sent : SM := b_p_go_on_from_syn_sent_1
def p_go_on_from_syn_sent : GM := mDef 3 3 b_p_go_on_from_syn_sent
def b_p_refuse_1 : SM := (mIf (mTru (mCB p_bears (mCons (mVar 1) (mCons (mC (.int 16)) mNil)))) (mSeq (mSetF ["End"] "state" (mVar 0) (mC (.str "closed")))
    (mSetF ["End"] "error" (mVar 0) (mC (.str "refused")))) mSkip)
def b_p_refuse : SM := b_p_refuse_1
def p_refuse : GM := mDef 2 2 b_p_refuse
def b_p_come_to_syn_sent_1 : SM := (mIf (mTru (mCB p_bears (mCons (mVar 1) (mCons (mC (.int 2)) mNil)))) (mSeq (mExpr (mCB p_hear_syn (mCons (mVar 0) (mCons (mVar 1) mNil))))
        (mExpr (mCB p_go_on_from_syn_sent (mCons (mVar 0) (mCons (mVar 1) (mCons (mVar 2) mNil)))))) mSkip)
def b_p_come_to_syn_sent_2 : SM := (mIf (mTru (mCB p_bears (mCons (mVar 1) (mCons (mC (.int 4)) mNil)))) (mExpr (mCB p_refuse (mCons (mVar 0) (mCons (mVar 1) mNil)))) b_p_come_to_syn_sent_1)
def b_p_come_to_syn_sent_3 : SM := (mIf (mAnd (mTru (mCB p_bears (mCons (mVar 1) (mCons (mC (.int 16)) mNil)))) (mNot (mTru (mCB p_answers_syn (mCons (mVar 0) (mCons (mVar 1) mNil)))))) (mExpr (mCB p_owe_reset_for (mCons (mVar 0) (mCons (mVar 1) mNil)))) b_p_come_to_syn_sent_2)
def b_p_come_to_syn_sent : SM := b_p_come_to_syn_sent_3
def p_come_to_syn_sent : GM := mDef 3 3 b_p_come_to_syn_sent
def b_p_come_to_stream : SM := mBad
def p_come_to_stream : GM := mDef 3 3 b_p_come_to_stream
def b_p_is_for : SM := (mRet (mAndV (mOp eqM (mOp ixM (mVar 1) (mC (.int 1))) (mFld ["End"] "ours" (mVar 0))) (mOrV (mOp inM (mFld ["End"] "state" (mVar 0)) (mTup (mCons (mC (.str "closed")) (mCons (mC (.str "listen")) mNil)))) (mOp eqM (mOp ixM (mVar 1) (mC (.int 0))) (mFld ["End"] "theirs" (mVar 0))))))
def p_is_for : GM := mDef 2 2 b_p_is_for
def b_p_arrive_1 : SM := (mIf (mNot (mTru (mCB p_is_right (mCons (mVar 1) mNil)))) (mRet (mC (.bl false))) mSkip)
def b_p_arrive_2 : SM := (mIf (mNot (mTru (mCB p_is_for (mCons (mVar 0) (mCons (mVar 3) mNil))))) (mRet (mC (.bl false))) mSkip)
def b_p_arrive_3 : SM := (mIf (mTest (mOp eqM (mFld ["End"] "state" (mVar 0)) (mC (.str "syn sent")))) (mExpr (mCB p_come_to_syn_sent (mCons (mVar 0) (mCons (mVar 3) (mCons (mVar 2) mNil))))) (mExpr (mCB p_come_to_stream (mCons (mVar 0) (mCons (mVar 3) (mCons (mVar 2) mNil))))))
def b_p_arrive_4 : SM := (mIf (mTest (mOp eqM (mFld ["End"] "state" (mVar 0)) (mC (.str "listen")))) (mExpr (mCB p_come_to_listen (mCons (mVar 0) (mCons (mVar 3) mNil)))) b_p_arrive_3)
def b_p_arrive_5 : SM := (mIf (mTest (mOp eqM (mFld ["End"] "state" (mVar 0)) (mC (.str "closed")))) (mExpr (mCB p_come_to_closed (mCons (mVar 0) (mCons (mVar 3) mNil)))) b_p_arrive_4)
def b_p_arrive : SM := (mSeq b_p_arrive_1
  (mSeq (mSet 3 (mCB p_get (mCons (mVar 1) mNil)))
  (mSeq b_p_arrive_2
  (mSeq b_p_arrive_5
  (mRet (mC (.bl true)))))))
def p_arrive : GM := mDef 3 4 b_p_arrive
def b_l_plus : SM := (mRet (mOp modM (mOp addM (mVar 0) (mVar 1)) (mC (.int 4294967296))))
def l_plus : GM := mDef 2 2 b_l_plus
def b_l_first_1 : SM := (mIf (mTest (mOp eqM (mOp modM (mVar 0) (mC (.int 2))) (mC (.int 0)))) (mRet (mOp modM (mOp subM (mC (.int 4294967296)) (mOp modM (mOp divM (mVar 0) (mC (.int 2))) (mC (.int 90)))) (mC (.int 4294967296)))) mSkip)
def b_l_first : SM := (mSeq b_l_first_1
  (mRet (mVar 0)))
def l_first : GM := mDef 1 1 b_l_first
def b_p_close_1 : SM := (mIf (mTru (mFld ["End"] "has_closed" (mVar 0))) (mRet (mC (.bl false))) mSkip)
def b_p_close_2 : SM := (mIf (mTest (mOp inM (mFld ["End"] "state" (mVar 0)) (mTup (mCons (mC (.str "listen")) (mCons (mC (.str "syn sent")) mNil))))) (mSeq (mSetF ["End"] "state" (mVar 0) (mC (.str "closed")))
    (mRet (mC (.bl true)))) mSkip)
def b_p_close_3 : SM := (mIf (mTest (mOp notInM (mFld ["End"] "state" (mVar 0)) (mTup (mCons (mC (.str "syn come")) (mCons (mC (.str "open")) (mCons (mC (.str "close wait")) mNil)))))) (mRet (mC (.bl false))) mSkip)
def b_p_close_4 : SM := (mIf (mTest (mOp eqM (mFld ["End"] "state" (mVar 0)) (mC (.str "close wait")))) (mSetF ["End"] "state" (mVar 0) (mC (.str "last ack"))) mSkip)
def b_p_close_5 : SM := (mIf (mTest (mOp eqM (mFld ["End"] "state" (mVar 0)) (mC (.str "open")))) (mSetF ["End"] "state" (mVar 0) (mC (.str "wait one"))) b_p_close_4)
def b_p_close : SM := (mSeq b_p_close_1
  (mSeq b_p_close_2
  (mSeq b_p_close_3
  (mSeq (mSetF ["End"] "has_closed" (mVar 0) (mC (.bl true)))
  (mSeq b_p_close_5
  (mRet (mC (.bl true))))))))
def p_close : GM := mDef 1 1 b_p_close
def b_p_abort_1 : SM := (mIf (mTest (mOp eqM (mFld ["End"] "state" (mVar 0)) (mC (.str "closed")))) (mRet (mC (.bl false))) mSkip)
def b_p_abort_2 : SM := (mIf (mTest (mOp notInM (mFld ["End"] "state" (mVar 0)) (mTup (mCons (mC (.str "listen")) (mCons (mC (.str "syn sent")) (mCons (mC (.str "time wait")) mNil)))))) (mSetF ["End"] "owed_reset" (mVar 0) (mTup (mCons (mFld ["End"] "ours" (mVar 0)) (mCons (mFld ["End"] "theirs" (mVar 0)) (mCons (mFld ["End"] "nxt" (mVar 0)) (mCons (mC (.int 0)) (mCons (mC (.int 4)) (mCons (mC (.int 0)) (mCons (mC (.int 0)) (mCons (mTup mNil) mNil)))))))))) mSkip)
def b_p_abort : SM := (mSeq b_p_abort_1
  (mSeq b_p_abort_2
  (mSeq (mSetF ["End"] "state" (mVar 0) (mC (.str "closed")))
  (mRet (mC (.bl true))))))
def p_abort : GM := mDef 1 1 b_p_abort
end
end My
set_option Elab.async false
set_option linter.all false
set_option maxRecDepth 100000
set_option maxHeartbeats 4000000
namespace My
open PySem L2 L2.MM
noncomputable section
def bears (s : Seg) (f : Int) : Bool := decide (bit s.flags f = 1)
def lenS (s : Seg) : Int := s.data.length + bit s.flags 2 + bit s.flags 1
def resetFor (s : Seg) : Seg := if bears s 16 = true then ⟨s.goal, s.src, s.ans, 0, 4, 0, 0, []⟩ else ⟨s.goal, s.src, 0, plus s.num (lenS s), 20, 0, 0, []⟩
def oweReset (e : EndS) (s : Seg) : EndS := if bears s 4 = true then e else { e with owed_reset := some (resetFor s) }
def hearSyn (e : EndS) (s : Seg) : EndS := { e with rcv := plus s.num 1, wnd := s.win, told := s.num, told_by := if bears s 16 = true then s.ans else 0, most := if s.most = 0 then e.most else s.most }
def comeListen (e : EndS) (s : Seg) : EndS :=
  if bears s 4 = true then e
  else if bears s 16 = true then oweReset e s
  else if bears s 2 = true then { hearSyn { e with theirs := s.src } s with state := .synCome }
  else e
def answersSyn (e : EndS) (s : Seg) : Bool := !decide (e.nxt = e.first) && decide (s.ans = plus e.first 1)
def comeSynSent (e : EndS) (s : Seg) (now : Int) : EndS :=
  if bears s 16 = true ∧ answersSyn e s = false then oweReset e s
  else if bears s 4 = true then (if bears s 16 = true then { e with state := .closed, error := .refused } else e)
  else if bears s 2 = true then
    (if bears s 16 = true then { hearSyn e s with una := s.ans, state := .opn, owes_answer := true }
     else { startTimer { hearSyn e s with state := .synCome } now with owes_syn := true })
  else e
def isFor (e : EndS) (s : Seg) : Bool := decide (s.goal = e.ours) && (decide (e.state ∈ [State.closed, .listen]) || decide (s.src = e.theirs))
def closeE (e : EndS) : Bool × EndS :=
  if e.has_closed = true then (false, e)
  else if e.state = .listen ∨ e.state = .synSent then (true, { e with state := .closed })
  else if e.state = .opn then (true, { e with has_closed := true, state := .waitOne })
  else if e.state = .closeWait then (true, { e with has_closed := true, state := .lastAck })
  else if e.state = .synCome then (true, { e with has_closed := true })
  else (false, e)
def abortE (e : EndS) : Bool × EndS :=
  if e.state = .closed then (false, e)
  else if e.state = .listen ∨ e.state = .synSent ∨ e.state = .timeWait then (true, { e with state := .closed })
  else (true, { e with owed_reset := some ⟨e.ours, e.theirs, e.nxt, 0, 4, 0, 0, []⟩, state := .closed })
section
variable {θ : Sto} {l : Nat} {e : EndS} {s : Seg} {now f : Int}
@[simp] theorem t_bears : p_bears [s.d, .int f] θ = .ok (.bl (bears s f)) θ := by
  simp [p_bears, b_p_bears, bears]
theorem t_length' : p_length [s.d] θ = .ok (.int (lenS s)) θ := t_length s θ
@[simp] theorem t_reset_for : p_reset_for [s.d] θ = .ok (resetFor s).d θ := by
  by_cases c : bears s 16 = true
  · simp [p_reset_for, b_p_reset_for, b_p_reset_for_1, c, resetFor, seg_d0]
  · simp [p_reset_for, b_p_reset_for, b_p_reset_for_1, c, resetFor, seg_d0, t_length']
@[simp] theorem t_owe_reset (h : l + 3 < θ.length) : p_owe_reset_for [.ref l, s.d] (upE θ l e) = .ok .non (upE θ l (oweReset e s)) := by
  by_cases c : bears s 4 = true
  · simp [p_owe_reset_for, b_p_owe_reset_for, b_p_owe_reset_for_1, h, c, oweReset]
  · simp [p_owe_reset_for, b_p_owe_reset_for, b_p_owe_reset_for_1, h, c, oweReset]
@[simp] theorem t_come_to_closed (h : l + 3 < θ.length) : p_come_to_closed [.ref l, s.d] (upE θ l e) = .ok .non (upE θ l (oweReset e s)) := by
  simp [p_come_to_closed, b_p_come_to_closed, h]
@[simp] theorem t_hear_syn (h : l + 3 < θ.length) : p_hear_syn [.ref l, s.d] (upE θ l e) = .ok .non (upE θ l (hearSyn e s)) := by
  by_cases c : bears s 16 = true <;> by_cases c2 : s.most = 0 <;> simp [p_hear_syn, b_p_hear_syn, b_p_hear_syn_1, h, c, c2, hearSyn]
@[simp] theorem t_come_to_listen (h : l + 3 < θ.length) : p_come_to_listen [.ref l, s.d] (upE θ l e) = .ok .non (upE θ l (comeListen e s)) := by
  by_cases c : bears s 4 = true
  · simp [p_come_to_listen, b_p_come_to_listen, b_p_come_to_listen_1, h, c, comeListen]
  · by_cases c1 : bears s 16 = true
    · simp [p_come_to_listen, b_p_come_to_listen, b_p_come_to_listen_1, b_p_come_to_listen_2, b_p_come_to_listen_3, h, c, c1, comeListen]
    · by_cases c2 : bears s 2 = true
      · simp [p_come_to_listen, b_p_come_to_listen, b_p_come_to_listen_1, b_p_come_to_listen_2, b_p_come_to_listen_3, h, c, c1, c2, comeListen]
      · simp [p_come_to_listen, b_p_come_to_listen, b_p_come_to_listen_1, b_p_come_to_listen_2, b_p_come_to_listen_3, h, c, c1, c2, comeListen]
@[simp] theorem t_answers_syn (h : l + 3 < θ.length) : p_answers_syn [.ref l, s.d] (upE θ l e) = .ok (.bl (answersSyn e s)) (upE θ l e) := by
  by_cases c : e.nxt = e.first <;> simp [p_answers_syn, b_p_answers_syn, h, answersSyn, c]
@[simp] theorem t_come_to_syn_sent (h : l + 3 < θ.length) : p_come_to_syn_sent [.ref l, s.d, .int now] (upE θ l e) = .ok .non (upE θ l (comeSynSent e s now)) := by
  by_cases c : bears s 16 = true
  · by_cases c1 : answersSyn e s = true
    · by_cases c2 : bears s 4 = true
      · simp [p_come_to_syn_sent, b_p_come_to_syn_sent, b_p_come_to_syn_sent_3, b_p_come_to_syn_sent_2, p_refuse, b_p_refuse, b_p_refuse_1, h, c, c1, c2, comeSynSent]
      · by_cases c3 : bears s 2 = true
        · simp [p_come_to_syn_sent, b_p_come_to_syn_sent, b_p_come_to_syn_sent_3, b_p_come_to_syn_sent_2, b_p_come_to_syn_sent_1, p_go_on_from_syn_sent, b_p_go_on_from_syn_sent, b_p_go_on_from_syn_sent_1, h, c, c1, c2, c3, comeSynSent]
        · simp [p_come_to_syn_sent, b_p_come_to_syn_sent, b_p_come_to_syn_sent_3, b_p_come_to_syn_sent_2, b_p_come_to_syn_sent_1, h, c, c1, c2, c3, comeSynSent]
    · simp [p_come_to_syn_sent, b_p_come_to_syn_sent, b_p_come_to_syn_sent_3, h, c, c1, comeSynSent]
  · by_cases c2 : bears s 4 = true
    · simp [p_come_to_syn_sent, b_p_come_to_syn_sent, b_p_come_to_syn_sent_3, b_p_come_to_syn_sent_2, p_refuse, b_p_refuse, b_p_refuse_1, h, c, c2, comeSynSent]
    · by_cases c3 : bears s 2 = true
      · simp [p_come_to_syn_sent, b_p_come_to_syn_sent, b_p_come_to_syn_sent_3, b_p_come_to_syn_sent_2, b_p_come_to_syn_sent_1, p_go_on_from_syn_sent, b_p_go_on_from_syn_sent, b_p_go_on_from_syn_sent_1, h, c, c2, c3, comeSynSent]
      · simp [p_come_to_syn_sent, b_p_come_to_syn_sent, b_p_come_to_syn_sent_3, b_p_come_to_syn_sent_2, b_p_come_to_syn_sent_1, h, c, c2, c3, comeSynSent]
@[simp] theorem t_is_for (h : l + 3 < θ.length) : p_is_for [.ref l, s.d] (upE θ l e) = .ok (.bl (isFor e s)) (upE θ l e) := by
  simp [p_is_for, b_p_is_for, h, isFor]
theorem t_close (h : l + 3 < θ.length) : p_close [.ref l] (upE θ l e) = .ok (.bl (closeE e).1) (upE θ l (closeE e).2) := by
  by_cases c : e.has_closed = true
  · simp [p_close, b_p_close, b_p_close_1, h, c, closeE]
  · cases s : e.state <;> simp [p_close, b_p_close, b_p_close_1, b_p_close_2, b_p_close_3, b_p_close_4, b_p_close_5, h, c, closeE, s]
theorem t_abort (h : l + 3 < θ.length) : p_abort [.ref l] (upE θ l e) = .ok (.bl (abortE e).1) (upE θ l (abortE e).2) := by
  cases s : e.state <;> simp [p_abort, b_p_abort, b_p_abort_1, b_p_abort_2, h, abortE, s, seg_d0]
theorem t_arrive_other (h : l + 3 < θ.length) {r : List Int} (hb : Byt r) (hr : isRight r = true) (hf : isFor e (getSeg r) = false) : p_arrive [.ref l, il r, .int now] (upE θ l e) = .ok (.bl false) (upE θ l e) := by
  simp [p_arrive, b_p_arrive, b_p_arrive_1, b_p_arrive_2, t_is_right hb, hr, t_get hb hr, h, hf]
theorem t_arrive_closed (h : l + 3 < θ.length) {r : List Int} (hb : Byt r) (hr : isRight r = true) (hf : isFor e (getSeg r) = true) (hs : e.state = .closed) : p_arrive [.ref l, il r, .int now] (upE θ l e) = .ok (.bl true) (upE θ l (oweReset e (getSeg r))) := by
  simp [p_arrive, b_p_arrive, b_p_arrive_1, b_p_arrive_2, b_p_arrive_5, t_is_right hb, hr, t_get hb hr, h, hf, hs]
theorem t_arrive_listen (h : l + 3 < θ.length) {r : List Int} (hb : Byt r) (hr : isRight r = true) (hf : isFor e (getSeg r) = true) (hs : e.state = .listen) : p_arrive [.ref l, il r, .int now] (upE θ l e) = .ok (.bl true) (upE θ l (comeListen e (getSeg r))) := by
  simp [p_arrive, b_p_arrive, b_p_arrive_1, b_p_arrive_2, b_p_arrive_5, b_p_arrive_4, t_is_right hb, hr, t_get hb hr, h, hf, hs]
@[simp] theorem t_lplus {n k : Int} : l_plus [.int n, .int k] θ = .ok (.int (plus n k)) θ := by simp [l_plus, b_l_plus, plus]
def firstOf (n : Int) : Int := if n % 2 = 0 then (4294967296 - n / 2 % 90) % 4294967296 else n
@[simp] theorem t_lfirst {n : Int} : l_first [.int n] θ = .ok (.int (firstOf n)) θ := by
  by_cases c : n % 2 = 0 <;> simp [l_first, b_l_first, b_l_first_1, firstOf, c]
end
end
end My
def PySem.W.Fast.tw14315409416714165504 : Nat := 0
def PySem.W.Fast.tw17559942007574180128 : Nat := 0
def PySem.W.Fast.tw10153554322940954944 : Nat := 0
def PySem.W.Fast.tw4709883828764281184 : Nat := 0
def PySem.W.Fast.tw10103958567223843168 : Nat := 0
def PySem.W.Fast.tw11144944986953485696 : Nat := 0
def PySem.W.Fast.tw1283619967889279392 : Nat := 0
def PySem.W.Fast.tw17400275180154544544 : Nat := 0
def PySem.W.Fast.tw11777250876872826304 : Nat := 0
def PySem.W.Fast.tw15916823655229883872 : Nat := 0
def PySem.W.Fast.tw9839321908077502976 : Nat := 0
def PySem.W.Fast.tw11290845181324042752 : Nat := 0
def PySem.W.Fast.tw11712106870819064352 : Nat := 0
def PySem.W.Fast.tw15121319708794733088 : Nat := 0
def PySem.W.Fast.tw11278533713507839584 : Nat := 0
def PySem.W.Fast.tw4885013293471160960 : Nat := 0
def PySem.W.Fast.tw5468983675099520736 : Nat := 0
def PySem.W.Fast.tw17778365051987011296 : Nat := 0
def PySem.W.Fast.tw5393927429374456544 : Nat := 0
def PySem.W.Fast.tw1111575811652189920 : Nat := 0
def PySem.W.Fast.tw11134483991056763680 : Nat := 0
def PySem.W.Fast.tw18014063355738276672 : Nat := 0
def PySem.W.Fast.tw4462755140362718112 : Nat := 0
def PySem.W.Fast.tw6752816688832007169 : Nat := 0
def PySem.W.Fast.tw12939719724172645537 : Nat := 0
def PySem.W.Fast.tw7785424105572773057 : Nat := 0
def PySem.W.Fast.tw16228887423091718337 : Nat := 0
def PySem.W.Fast.tw16255024021469059265 : Nat := 0
def PySem.W.Fast.tw15326525791351196897 : Nat := 0
def PySem.W.Fast.tw14424909641049838913 : Nat := 0
def PySem.W.Fast.tw17715132957203147073 : Nat := 0
def PySem.W.Fast.tw15176923994525222241 : Nat := 0
def PySem.W.Fast.tw12247149922166633825 : Nat := 0
def PySem.W.Fast.tw1858372768857735585 : Nat := 0
def PySem.W.Fast.tw13582789780262859201 : Nat := 0
def PySem.W.Fast.tw6726410499525391841 : Nat := 0
def PySem.W.Fast.tw10908416821195277857 : Nat := 0
def PySem.W.Fast.tw1429518851697219105 : Nat := 0
def PySem.W.Fast.tw1524668653291451937 : Nat := 0
def PySem.W.Fast.tw543909532736680481 : Nat := 0
def PySem.W.Fast.tw9561112525251412609 : Nat := 0
def PySem.W.Fast.tw4612567252893152929 : Nat := 0
def PySem.W.Fast.tw8100289203352461985 : Nat := 0
def PySem.W.Fast.tw18352707973803828929 : Nat := 0
def PySem.W.Fast.tw12315371630818086657 : Nat := 0
def PySem.W.Fast.tw968220115532057409 : Nat := 0
def PySem.W.Fast.tw2098539826538081089 : Nat := 0
def PySem.W.Fast.tw5959480638027766625 : Nat := 0
def PySem.W.Fast.tw4953505764014206817 : Nat := 0
def PySem.W.Fast.tw4568366856502467457 : Nat := 0
def PySem.W.Fast.tw17453865970849597377 : Nat := 0
def PySem.W.Fast.tw2860893942773368801 : Nat := 0
def PySem.W.Fast.tw6323395633912078305 : Nat := 0
def PySem.W.Fast.tw10297777351532877826 : Nat := 0
def PySem.W.Fast.tw971766894053791746 : Nat := 0
def PySem.W.Fast.tw7590400514390901794 : Nat := 0
def PySem.W.Fast.tw2572722524921436226 : Nat := 0
def PySem.W.Fast.tw2838789925468792898 : Nat := 0
def PySem.W.Fast.tw17459319087669128290 : Nat := 0
def PySem.W.Fast.tw3974523690315221154 : Nat := 0
def PySem.W.Fast.tw10140610811278009538 : Nat := 0
def PySem.W.Fast.tw1825592936675195074 : Nat := 0
def PySem.W.Fast.tw1511809370750529762 : Nat := 0
def PySem.W.Fast.tw10737240394186388706 : Nat := 0
def PySem.W.Fast.tw9383772963102853378 : Nat := 0
def PySem.W.Fast.tw10981044118807252226 : Nat := 0
def PySem.W.Fast.tw3317608765196689666 : Nat := 0
def PySem.W.Fast.tw9860731953863398754 : Nat := 0
def PySem.W.Fast.tw10852882716922159490 : Nat := 0
def PySem.W.Fast.tw14148573469946242 : Nat := 0
def PySem.W.Fast.tw8994736052723979714 : Nat := 0
def PySem.W.Fast.tw16714676397884454370 : Nat := 0
def PySem.W.Fast.tw11341627232616994 : Nat := 0
def PySem.W.Fast.tw12111228314852152898 : Nat := 0
def PySem.W.Fast.tw828914612122110594 : Nat := 0
def PySem.W.Fast.tw16813669614524797602 : Nat := 0
def PySem.W.Fast.tw943792779331261186 : Nat := 0
def PySem.W.Fast.tw4569634327330182914 : Nat := 0
def PySem.W.Fast.tw12756109265404205986 : Nat := 0
def PySem.W.Fast.tw10702270342106440610 : Nat := 0
def PySem.W.Fast.tw13686571815588966435 : Nat := 0
def PySem.W.Fast.tw3110707504813852771 : Nat := 0
def PySem.W.Fast.tw8015314699106476131 : Nat := 0
def PySem.W.Fast.tw9514766710679337123 : Nat := 0
def PySem.W.Fast.tw9447031821815460067 : Nat := 0
def PySem.W.Fast.tw11424448173052056803 : Nat := 0
def PySem.W.Fast.tw14092148897733796067 : Nat := 0
def PySem.W.Fast.tw6327749860362530051 : Nat := 0
def PySem.W.Fast.tw2688384963405515139 : Nat := 0
def PySem.W.Fast.tw16090371557299957123 : Nat := 0
def PySem.W.Fast.tw1830765144886500771 : Nat := 0
def PySem.W.Fast.tw11089194441885417923 : Nat := 0
def PySem.W.Fast.tw13755240050610850243 : Nat := 0
def PySem.W.Fast.tw6554421550507826659 : Nat := 0
def PySem.W.Fast.tw16017580620328778211 : Nat := 0
def PySem.W.Fast.tw13884344910785280483 : Nat := 0
def PySem.W.Fast.tw6746820608592583267 : Nat := 0
def PySem.W.Fast.tw9240927150788715107 : Nat := 0
def PySem.W.Fast.tw8431838210904238691 : Nat := 0
def PySem.W.Fast.tw10153954084065637987 : Nat := 0
def PySem.W.Fast.tw11107819247457755779 : Nat := 0
def PySem.W.Fast.tw14406390235115538083 : Nat := 0
def PySem.W.Fast.tw13779896409843222371 : Nat := 0
def PySem.W.Fast.tw1389681451517091715 : Nat := 0
def PySem.W.Fast.tw18403104767828546435 : Nat := 0
def PySem.W.Fast.tw9242981613268230019 : Nat := 0
def PySem.W.Fast.tw8894351719828253667 : Nat := 0
def PySem.W.Fast.tw13007308342783936516 : Nat := 0
def PySem.W.Fast.tw9629852153027745828 : Nat := 0
def PySem.W.Fast.tw12848158395148598308 : Nat := 0
def PySem.W.Fast.tw12886574084008776772 : Nat := 0
def PySem.W.Fast.tw12167217166250384516 : Nat := 0
def PySem.W.Fast.tw9972252851972993188 : Nat := 0
def PySem.W.Fast.tw14232630927187331268 : Nat := 0
def PySem.W.Fast.tw2805683641782985956 : Nat := 0
def PySem.W.Fast.tw14050266799651696932 : Nat := 0
def PySem.W.Fast.tw439529092460697924 : Nat := 0
def PySem.W.Fast.tw17583218982258721124 : Nat := 0
def PySem.W.Fast.tw6988743791962588548 : Nat := 0
def PySem.W.Fast.tw5668847792002943364 : Nat := 0
def PySem.W.Fast.tw14304109832063763876 : Nat := 0
def PySem.W.Fast.tw14925766600891525668 : Nat := 0
def PySem.W.Fast.tw2850757469434190404 : Nat := 0
def PySem.W.Fast.tw10771626915608382020 : Nat := 0
def PySem.W.Fast.tw2792197315183360612 : Nat := 0
def PySem.W.Fast.tw5069536114953438820 : Nat := 0
def PySem.W.Fast.tw9697450935262225028 : Nat := 0
def PySem.W.Fast.tw866636231310261924 : Nat := 0
def PySem.W.Fast.tw11283785098290290372 : Nat := 0
def PySem.W.Fast.tw1109863153266280164 : Nat := 0
def PySem.W.Fast.tw14195117160741826372 : Nat := 0
def PySem.W.Fast.tw10759996652032019332 : Nat := 0
def PySem.W.Fast.tw15620649082513011620 : Nat := 0
def PySem.W.Fast.tw12343421247524951077 : Nat := 0
def PySem.W.Fast.tw4815223319467553925 : Nat := 0
def PySem.W.Fast.tw7929552128901989605 : Nat := 0
def PySem.W.Fast.tw11892512592746543429 : Nat := 0
def PySem.W.Fast.tw13661470714377136517 : Nat := 0
def PySem.W.Fast.tw10281407765116854693 : Nat := 0
def PySem.W.Fast.tw5100990334479145413 : Nat := 0
def PySem.W.Fast.tw9491712120844940741 : Nat := 0
def PySem.W.Fast.tw895355142393124325 : Nat := 0
def PySem.W.Fast.tw7362137599304114693 : Nat := 0
def PySem.W.Fast.tw7032387696766308901 : Nat := 0
def PySem.W.Fast.tw6804306494562837061 : Nat := 0
def PySem.W.Fast.tw17556151721479581253 : Nat := 0
def PySem.W.Fast.tw6519614374785998405 : Nat := 0
def PySem.W.Fast.tw12503404239890474629 : Nat := 0
def PySem.W.Fast.tw8687819853590469285 : Nat := 0
def PySem.W.Fast.tw13089604697332431557 : Nat := 0
def PySem.W.Fast.tw10803080492034476805 : Nat := 0
def PySem.W.Fast.tw2154088494247781157 : Nat := 0
def PySem.W.Fast.tw306488416673356581 : Nat := 0
def PySem.W.Fast.tw14446596311178874725 : Nat := 0
def PySem.W.Fast.tw17175304215555262341 : Nat := 0
def PySem.W.Fast.tw11247260461136228261 : Nat := 0
def PySem.W.Fast.tw13189606468248833989 : Nat := 0
def PySem.W.Fast.tw2986031676677828549 : Nat := 0
def PySem.W.Fast.tw9739164630654015622 : Nat := 0
def PySem.W.Fast.tw678832999385302214 : Nat := 0
def PySem.W.Fast.tw2725086870091863270 : Nat := 0
def PySem.W.Fast.tw14183101105860280614 : Nat := 0
def PySem.W.Fast.tw9997928760935328102 : Nat := 0
def PySem.W.Fast.tw2723715575569804806 : Nat := 0
def PySem.W.Fast.tw4451970213790603814 : Nat := 0
def PySem.W.Fast.tw15282930929230517862 : Nat := 0
def PySem.W.Fast.tw14088545526378997350 : Nat := 0
def PySem.W.Fast.tw15268679197913726598 : Nat := 0
def PySem.W.Fast.tw2316200560977920678 : Nat := 0
def PySem.W.Fast.tw5136503364949797574 : Nat := 0
def PySem.W.Fast.tw6212232306843843270 : Nat := 0
def PySem.W.Fast.tw7879086235698550502 : Nat := 0
def PySem.W.Fast.tw13287974864352111366 : Nat := 0
def PySem.W.Fast.tw4455196508865157958 : Nat := 0
def PySem.W.Fast.tw10255965125421109094 : Nat := 0
def PySem.W.Fast.tw2182359431344076710 : Nat := 0
def PySem.W.Fast.tw15474469998279251975 : Nat := 0
def PySem.W.Fast.tw10320919391489085543 : Nat := 0
def PySem.W.Fast.tw4705113377060506759 : Nat := 0
def PySem.W.Fast.tw12371152232139270311 : Nat := 0
def PySem.W.Fast.tw16863517269360167175 : Nat := 0
def PySem.W.Fast.tw1707150265560124679 : Nat := 0
def PySem.W.Fast.tw12605483655146132807 : Nat := 0
def PySem.W.Fast.tw12648488802130693479 : Nat := 0
def PySem.W.Fast.tw7507503731962420583 : Nat := 0
def PySem.W.Fast.tw6681578795633627495 : Nat := 0
def PySem.W.Fast.tw18415149664928473479 : Nat := 0
def PySem.W.Fast.tw10677188564058713479 : Nat := 0
def PySem.W.Fast.tw10177676214906750407 : Nat := 0
def PySem.W.Fast.tw14114169499749270023 : Nat := 0
def PySem.W.Fast.tw6344857268207531559 : Nat := 0
def PySem.W.Fast.tw15596432292741730887 : Nat := 0
def PySem.W.Fast.tw12900279559567663719 : Nat := 0
def PySem.W.Fast.tw14478137356526658183 : Nat := 0
def PySem.W.Fast.tw17314010773960012423 : Nat := 0
def PySem.W.Fast.tw6784516775891818151 : Nat := 0
def PySem.W.Fast.tw14762342818815891111 : Nat := 0
def PySem.W.Fast.tw3672043761614874343 : Nat := 0
def PySem.W.Fast.tw15309224363413732167 : Nat := 0
def PySem.W.Fast.tw7720814041098122087 : Nat := 0
def PySem.W.Fast.tw16135403057815139207 : Nat := 0
def PySem.W.Fast.tw17854782124807013287 : Nat := 0
def PySem.W.Fast.tw7232629828524248072 : Nat := 0
def PySem.W.Fast.tw17889030477274518536 : Nat := 0
def PySem.W.Fast.tw13523326562962315592 : Nat := 0
def PySem.W.Fast.tw12239523745155217768 : Nat := 0
def PySem.W.Fast.tw10174460190953319816 : Nat := 0
def PySem.W.Fast.tw5499768102173312456 : Nat := 0
def PySem.W.Fast.tw14556613895264741864 : Nat := 0
def PySem.W.Fast.tw14936287846736933384 : Nat := 0
def PySem.W.Fast.tw11041685851513763336 : Nat := 0
def PySem.W.Fast.tw10884252373800327752 : Nat := 0
def PySem.W.Fast.tw9921253923604891240 : Nat := 0
def PySem.W.Fast.tw6521817337809256104 : Nat := 0
def PySem.W.Fast.tw16821313793235156744 : Nat := 0
def PySem.W.Fast.tw3672556592055525256 : Nat := 0
def PySem.W.Fast.tw17945234099930815368 : Nat := 0
def PySem.W.Fast.tw13402892629803547560 : Nat := 0
def PySem.W.Fast.tw4755655509332343913 : Nat := 0
def PySem.W.Fast.tw8483427312548475017 : Nat := 0
def PySem.W.Fast.tw428950314992602313 : Nat := 0
def PySem.W.Fast.tw7381396406625112425 : Nat := 0
def PySem.W.Fast.tw2353569022962033033 : Nat := 0
def PySem.W.Fast.tw9569319007523316137 : Nat := 0
def PySem.W.Fast.tw2896461000847750601 : Nat := 0
def PySem.W.Fast.tw15323492214111349257 : Nat := 0
def PySem.W.Fast.tw2301050614532901417 : Nat := 0
def PySem.W.Fast.tw6833452040092315177 : Nat := 0
def PySem.W.Fast.tw13027532679098409609 : Nat := 0
def PySem.W.Fast.tw4912226562192558793 : Nat := 0
def PySem.W.Fast.tw15685781331945460521 : Nat := 0
def PySem.W.Fast.tw9714395112337906473 : Nat := 0
def PySem.W.Fast.tw10573583522967010153 : Nat := 0
def PySem.W.Fast.tw7758086942254509961 : Nat := 0
def PySem.W.Fast.tw14005613345163572105 : Nat := 0
def PySem.W.Fast.tw16320532154514360265 : Nat := 0
def PySem.W.Fast.tw2895065305878051850 : Nat := 0
def PySem.W.Fast.tw17050762373337957386 : Nat := 0
def PySem.W.Fast.tw5412769693692244010 : Nat := 0
def PySem.W.Fast.tw15432398162645662858 : Nat := 0
def PySem.W.Fast.tw3235360066426629258 : Nat := 0
def PySem.W.Fast.tw16398044394773820586 : Nat := 0
def PySem.W.Fast.tw12817546845006242026 : Nat := 0
def PySem.W.Fast.tw17831490288387090666 : Nat := 0
def PySem.W.Fast.tw3465616761861482826 : Nat := 0
def PySem.W.Fast.tw14534964667461780810 : Nat := 0
def PySem.W.Fast.tw15389085536407893354 : Nat := 0
def PySem.W.Fast.tw15585933528780881290 : Nat := 0
def PySem.W.Fast.tw12050571781946143178 : Nat := 0
def PySem.W.Fast.tw6119220738263743946 : Nat := 0
def PySem.W.Fast.tw4400476821159912970 : Nat := 0
def PySem.W.Fast.tw8115073338759663114 : Nat := 0
def PySem.W.Fast.tw2957510159716646410 : Nat := 0
def PySem.W.Fast.tw11380721848200935018 : Nat := 0
def PySem.W.Fast.tw12977561319126847114 : Nat := 0
def PySem.W.Fast.tw8853340693661928106 : Nat := 0
def PySem.W.Fast.tw3066334333695104714 : Nat := 0
def PySem.W.Fast.tw17704975443215620938 : Nat := 0
def PySem.W.Fast.tw2819821504055979850 : Nat := 0
def PySem.W.Fast.tw16147747614670952298 : Nat := 0
def PySem.W.Fast.tw14293524364025141259 : Nat := 0
def PySem.W.Fast.tw3800111867484104715 : Nat := 0
def PySem.W.Fast.tw3255996798007786539 : Nat := 0
def PySem.W.Fast.tw13060629079249712203 : Nat := 0
def PySem.W.Fast.tw5652506092991158443 : Nat := 0
def PySem.W.Fast.tw1374907046959087947 : Nat := 0
def PySem.W.Fast.tw14609906988736263499 : Nat := 0
def PySem.W.Fast.tw16920543858734102955 : Nat := 0
def PySem.W.Fast.tw4695368056068895339 : Nat := 0
def PySem.W.Fast.tw2731789229792033387 : Nat := 0
def PySem.W.Fast.tw7674854363391136555 : Nat := 0
def PySem.W.Fast.tw14418829461144675115 : Nat := 0
def PySem.W.Fast.tw14970108495265872715 : Nat := 0
def PySem.W.Fast.tw303615735490246475 : Nat := 0
def PySem.W.Fast.tw11868900585660856235 : Nat := 0
def PySem.W.Fast.tw15172352677057437708 : Nat := 0
def PySem.W.Fast.tw1468117965253859340 : Nat := 0
def PySem.W.Fast.tw1549778705521811500 : Nat := 0
def PySem.W.Fast.tw1287959588335119500 : Nat := 0
def PySem.W.Fast.tw215930047037083820 : Nat := 0
def PySem.W.Fast.tw2775547391382711468 : Nat := 0
def PySem.W.Fast.tw793553005720991916 : Nat := 0
def PySem.W.Fast.tw10755415620242023628 : Nat := 0
def PySem.W.Fast.tw11545363271145622764 : Nat := 0
def PySem.W.Fast.tw13471212644135415020 : Nat := 0
def PySem.W.Fast.tw5161741169027231980 : Nat := 0
def PySem.W.Fast.tw12523531871019989228 : Nat := 0
def PySem.W.Fast.tw10830094059955782924 : Nat := 0
def PySem.W.Fast.tw7945605244062999820 : Nat := 0
def PySem.W.Fast.tw8132116162842338604 : Nat := 0
def PySem.W.Fast.tw7729518004366708076 : Nat := 0
def PySem.W.Fast.tw3585298609817322892 : Nat := 0
def PySem.W.Fast.tw7290490412031746508 : Nat := 0
def PySem.W.Fast.tw7472980617318899244 : Nat := 0
def PySem.W.Fast.tw16866129826183637548 : Nat := 0
def PySem.W.Fast.tw362580328897679980 : Nat := 0
def PySem.W.Fast.tw15615527536032619148 : Nat := 0
def PySem.W.Fast.tw17100203572646026892 : Nat := 0
def PySem.W.Fast.tw18175825885539913388 : Nat := 0
def PySem.W.Fast.tw13448129570893841100 : Nat := 0
def PySem.W.Fast.tw6367164772303092524 : Nat := 0
def PySem.W.Fast.tw10520911058724936492 : Nat := 0
def PySem.W.Fast.tw9254440799816118060 : Nat := 0
def PySem.W.Fast.tw8200780526259826476 : Nat := 0
def PySem.W.Fast.tw4925043359075808076 : Nat := 0
def PySem.W.Fast.tw6203028582997207980 : Nat := 0
def PySem.W.Fast.tw9558637380299284396 : Nat := 0
def PySem.W.Fast.tw13133806011493016492 : Nat := 0
def PySem.W.Fast.tw878494905850529740 : Nat := 0
def PySem.W.Fast.tw9819411957249522636 : Nat := 0
def PySem.W.Fast.tw8326943638050225100 : Nat := 0
def PySem.W.Fast.tw11129265523482620876 : Nat := 0
def PySem.W.Fast.tw16094097728180466765 : Nat := 0
def PySem.W.Fast.tw13967337289152598157 : Nat := 0
def PySem.W.Fast.tw13261814093488887949 : Nat := 0
def PySem.W.Fast.tw5392284315732938925 : Nat := 0
def PySem.W.Fast.tw14800771895168988333 : Nat := 0
def PySem.W.Fast.tw3609731147807274189 : Nat := 0
def PySem.W.Fast.tw6056299372838428909 : Nat := 0
def PySem.W.Fast.tw68350623220958509 : Nat := 0
def PySem.W.Fast.tw15044881060696892717 : Nat := 0
def PySem.W.Fast.tw17593088681648364909 : Nat := 0
def PySem.W.Fast.tw12313516810891309421 : Nat := 0
def PySem.W.Fast.tw16223642267695537549 : Nat := 0
def PySem.W.Fast.tw17205872427839876493 : Nat := 0
def PySem.W.Fast.tw18396843052611290573 : Nat := 0
def PySem.W.Fast.tw6236717009488300557 : Nat := 0
def PySem.W.Fast.tw9016152903990654573 : Nat := 0
def PySem.W.Fast.tw8192579335135384173 : Nat := 0
def PySem.W.Fast.tw15593567946563206797 : Nat := 0
def PySem.W.Fast.tw7445327630576403085 : Nat := 0
def PySem.W.Fast.tw7974342547447890573 : Nat := 0
def PySem.W.Fast.tw7648554173797556877 : Nat := 0
def PySem.W.Fast.tw2867285124079783661 : Nat := 0
def PySem.W.Fast.tw8704960268372030189 : Nat := 0
def PySem.W.Fast.tw2508181369617845005 : Nat := 0
def PySem.W.Fast.tw1629772866851184429 : Nat := 0
def PySem.W.Fast.tw918976731292447565 : Nat := 0
def PySem.W.Fast.tw3908675163475976045 : Nat := 0
def PySem.W.Fast.tw2032595694021177229 : Nat := 0
def PySem.W.Fast.tw16762510586942943181 : Nat := 0
def PySem.W.Fast.tw3726924264546335693 : Nat := 0
def PySem.W.Fast.tw12371813060679834638 : Nat := 0
def PySem.W.Fast.tw3824146738470076462 : Nat := 0
def PySem.W.Fast.tw14667726563439513742 : Nat := 0
def PySem.W.Fast.tw18152959655054256302 : Nat := 0
def PySem.W.Fast.tw18309021861838591182 : Nat := 0
def PySem.W.Fast.tw4444907524680949998 : Nat := 0
def PySem.W.Fast.tw16493436732244470094 : Nat := 0
def PySem.W.Fast.tw7729946929848829358 : Nat := 0
def PySem.W.Fast.tw12068322465033116302 : Nat := 0
def PySem.W.Fast.tw3538359454927324974 : Nat := 0
def PySem.W.Fast.tw12685767655101765422 : Nat := 0
def PySem.W.Fast.tw5660479653702957870 : Nat := 0
def PySem.W.Fast.tw6374960646950468430 : Nat := 0
def PySem.W.Fast.tw3943960800614115150 : Nat := 0
def PySem.W.Fast.tw5553601284361498542 : Nat := 0
def PySem.W.Fast.tw13206258101077511118 : Nat := 0
def PySem.W.Fast.tw16447345498158461902 : Nat := 0
def PySem.W.Fast.tw2989311772990109646 : Nat := 0
def PySem.W.Fast.tw17604725656829304814 : Nat := 0
def PySem.W.Fast.tw2368508828663405583 : Nat := 0
def PySem.W.Fast.tw13004580386105355311 : Nat := 0
def PySem.W.Fast.tw9829658772788809839 : Nat := 0
def PySem.W.Fast.tw858546193804075151 : Nat := 0
def PySem.W.Fast.tw12008856545766541487 : Nat := 0
def PySem.W.Fast.tw10851446594089436399 : Nat := 0
def PySem.W.Fast.tw3177996550028728623 : Nat := 0
def PySem.W.Fast.tw13299466013792430383 : Nat := 0
def PySem.W.Fast.tw4610207136850005359 : Nat := 0
def PySem.W.Fast.tw11583603063171276239 : Nat := 0
def PySem.W.Fast.tw2407355201302314575 : Nat := 0
def PySem.W.Fast.tw13989139405540090447 : Nat := 0
def PySem.W.Fast.tw11614452449651772015 : Nat := 0
def PySem.W.Fast.tw1375931012515127151 : Nat := 0
def PySem.W.Fast.tw1730655659520588655 : Nat := 0
def PySem.W.Fast.tw10670919050603403151 : Nat := 0
def PySem.W.Fast.tw7857183990305496112 : Nat := 0
def PySem.W.Fast.tw16418349379287799856 : Nat := 0
def PySem.W.Fast.tw14817521451446362224 : Nat := 0
def PySem.W.Fast.tw10316108173918084272 : Nat := 0
def PySem.W.Fast.tw12419985686142114992 : Nat := 0
def PySem.W.Fast.tw12133136714521938160 : Nat := 0
def PySem.W.Fast.tw2720691430883439952 : Nat := 0
def PySem.W.Fast.tw17404406852689133968 : Nat := 0
def PySem.W.Fast.tw2962882630019731888 : Nat := 0
def PySem.W.Fast.tw10980092443367960080 : Nat := 0
def PySem.W.Fast.tw14044240512106465904 : Nat := 0
def PySem.W.Fast.tw816629845477994288 : Nat := 0
def PySem.W.Fast.tw11730147353275560752 : Nat := 0
def PySem.W.Fast.tw5237994629744273296 : Nat := 0
def PySem.W.Fast.tw11609598150672399248 : Nat := 0
def PySem.W.Fast.tw16505520736917931952 : Nat := 0
def PySem.W.Fast.tw7483479122977174480 : Nat := 0
def PySem.W.Fast.tw5855878862314212561 : Nat := 0
def PySem.W.Fast.tw5375431694461145297 : Nat := 0
def PySem.W.Fast.tw10687996657776997585 : Nat := 0
def PySem.W.Fast.tw8046159465982279889 : Nat := 0
def PySem.W.Fast.tw16265266814703577329 : Nat := 0
def PySem.W.Fast.tw11555285173441793297 : Nat := 0
def PySem.W.Fast.tw1331863894744010001 : Nat := 0
def PySem.W.Fast.tw1203051143344775441 : Nat := 0
def PySem.W.Fast.tw3351823494041157937 : Nat := 0
def PySem.W.Fast.tw4109063362723515729 : Nat := 0
def PySem.W.Fast.tw18226185460679966097 : Nat := 0
def PySem.W.Fast.tw16493349359657620049 : Nat := 0
def PySem.W.Fast.tw7184229721123150417 : Nat := 0
def PySem.W.Fast.tw737002931030957681 : Nat := 0
def PySem.W.Fast.tw17989750871096255089 : Nat := 0
def PySem.W.Fast.tw18026947495891463793 : Nat := 0
def PySem.W.Fast.tw6863689729523087985 : Nat := 0
def PySem.W.Fast.tw12569915681130460817 : Nat := 0
def PySem.W.Fast.tw14733975758368185009 : Nat := 0
def PySem.W.Fast.tw5236315881024018097 : Nat := 0
def PySem.W.Fast.tw4538219381048963793 : Nat := 0
def PySem.W.Fast.tw9677163237070842609 : Nat := 0
def PySem.W.Fast.tw13329226087066057553 : Nat := 0
def PySem.W.Fast.tw8726838647541150577 : Nat := 0
def PySem.W.Fast.tw18150796098220955569 : Nat := 0
def PySem.W.Fast.tw736421055906244561 : Nat := 0
def PySem.W.Fast.tw17443806355737766865 : Nat := 0
def PySem.W.Fast.tw11609265179232992209 : Nat := 0
def PySem.W.Fast.tw13203114871277288433 : Nat := 0
def PySem.W.Fast.tw11461165982884593682 : Nat := 0
def PySem.W.Fast.tw5973220942902364210 : Nat := 0
def PySem.W.Fast.tw5103093274730255410 : Nat := 0
def PySem.W.Fast.tw2076996743584622706 : Nat := 0
def PySem.W.Fast.tw12767500326184247474 : Nat := 0
def PySem.W.Fast.tw3516547756822784210 : Nat := 0
def PySem.W.Fast.tw13568222186910088402 : Nat := 0
def PySem.W.Fast.tw1366015171022831922 : Nat := 0
def PySem.W.Fast.tw14056963820830410034 : Nat := 0
def PySem.W.Fast.tw8781839702947352946 : Nat := 0
def PySem.W.Fast.tw17954204938518221266 : Nat := 0
def PySem.W.Fast.tw9526009021990800882 : Nat := 0
def PySem.W.Fast.tw11805911016851963378 : Nat := 0
def PySem.W.Fast.tw14278660179977922098 : Nat := 0
def PySem.W.Fast.tw13808617192081764946 : Nat := 0
def PySem.W.Fast.tw15711096320317599346 : Nat := 0
def PySem.W.Fast.tw6797356654579085938 : Nat := 0
def PySem.W.Fast.tw10449869128089695858 : Nat := 0
def PySem.W.Fast.tw17064125993235736242 : Nat := 0
def PySem.W.Fast.tw13286915442818660082 : Nat := 0
def PySem.W.Fast.tw11816647600384885522 : Nat := 0
def PySem.W.Fast.tw15507853812459881298 : Nat := 0
def PySem.W.Fast.tw17303972780920874866 : Nat := 0
def PySem.W.Fast.tw9034599826855137202 : Nat := 0
def PySem.W.Fast.tw4103486093836343250 : Nat := 0
def PySem.W.Fast.tw17096697579515730898 : Nat := 0
def PySem.W.Fast.tw5730840613414548466 : Nat := 0
def PySem.W.Fast.tw8051122738183582739 : Nat := 0
def PySem.W.Fast.tw6413161057178046483 : Nat := 0
def PySem.W.Fast.tw9544977275657300019 : Nat := 0
def PySem.W.Fast.tw1347027899383092307 : Nat := 0
def PySem.W.Fast.tw17716118189071799507 : Nat := 0
def PySem.W.Fast.tw4369623331160729811 : Nat := 0
def PySem.W.Fast.tw5483980066410115283 : Nat := 0
def PySem.W.Fast.tw13992533239817156883 : Nat := 0
def PySem.W.Fast.tw10468548572189873459 : Nat := 0
def PySem.W.Fast.tw7276518060552064531 : Nat := 0
def PySem.W.Fast.tw1120695183402899987 : Nat := 0
def PySem.W.Fast.tw3620321455371361843 : Nat := 0
def PySem.W.Fast.tw6477850795836295731 : Nat := 0
def PySem.W.Fast.tw15359419069158652467 : Nat := 0
def PySem.W.Fast.tw1492521778575768147 : Nat := 0
def PySem.W.Fast.tw12899474801423944339 : Nat := 0
def PySem.W.Fast.tw16315777883131381427 : Nat := 0
def PySem.W.Fast.tw10452132151808769747 : Nat := 0
def PySem.W.Fast.tw18127332720728797907 : Nat := 0
def PySem.W.Fast.tw8223772860692682483 : Nat := 0
def PySem.W.Fast.tw1802946014505586451 : Nat := 0
def PySem.W.Fast.tw2071837575332232019 : Nat := 0
def PySem.W.Fast.tw13495484828177910643 : Nat := 0
def PySem.W.Fast.tw2710487509957825459 : Nat := 0
def PySem.W.Fast.tw15534322044859043795 : Nat := 0
def PySem.W.Fast.tw9392334282335485907 : Nat := 0
def PySem.W.Fast.tw7868546302567450708 : Nat := 0
def PySem.W.Fast.tw3521801424921043028 : Nat := 0
def PySem.W.Fast.tw10453346481546053716 : Nat := 0
def PySem.W.Fast.tw13283075218113939540 : Nat := 0
def PySem.W.Fast.tw12096043185853209716 : Nat := 0
def PySem.W.Fast.tw9908009875404932212 : Nat := 0
def PySem.W.Fast.tw6742979653643411636 : Nat := 0
def PySem.W.Fast.tw3816589531164006580 : Nat := 0
def PySem.W.Fast.tw5013842521687647444 : Nat := 0
def PySem.W.Fast.tw9646628710824169748 : Nat := 0
def PySem.W.Fast.tw362262199778812212 : Nat := 0
def PySem.W.Fast.tw107294802517385524 : Nat := 0
def PySem.W.Fast.tw2212508516058346868 : Nat := 0
def PySem.W.Fast.tw2191053611758859636 : Nat := 0
def PySem.W.Fast.tw8404838603543112084 : Nat := 0
def PySem.W.Fast.tw16650353363451128244 : Nat := 0
def PySem.W.Fast.tw1190802988428024244 : Nat := 0
def PySem.W.Fast.tw9536524461545531956 : Nat := 0
def PySem.W.Fast.tw18421773221880605236 : Nat := 0
def PySem.W.Fast.tw3733060299459837524 : Nat := 0
def PySem.W.Fast.tw15737137775770965716 : Nat := 0
def PySem.W.Fast.tw6660647217582827220 : Nat := 0
def PySem.W.Fast.tw10454124660480842516 : Nat := 0
def PySem.W.Fast.tw17031299415540140852 : Nat := 0
def PySem.W.Fast.tw17537819489898088340 : Nat := 0
def PySem.W.Fast.tw7165130656204218292 : Nat := 0
def PySem.W.Fast.tw15950283824362603508 : Nat := 0
def PySem.W.Fast.tw18005611704399683637 : Nat := 0
def PySem.W.Fast.tw4747247225667286261 : Nat := 0
def PySem.W.Fast.tw11062637116362001685 : Nat := 0
def PySem.W.Fast.tw7886048295193071925 : Nat := 0
def PySem.W.Fast.tw2457322239427461461 : Nat := 0
def PySem.W.Fast.tw3831996956391133525 : Nat := 0
def PySem.W.Fast.tw14097037284102732117 : Nat := 0
def PySem.W.Fast.tw17110028377625732469 : Nat := 0
def PySem.W.Fast.tw10037302476019135893 : Nat := 0
def PySem.W.Fast.tw14677666702706084309 : Nat := 0
def PySem.W.Fast.tw10276161277118490069 : Nat := 0
def PySem.W.Fast.tw15124083252724912597 : Nat := 0
def PySem.W.Fast.tw11671666219588336181 : Nat := 0
def PySem.W.Fast.tw15099147758520363605 : Nat := 0
def PySem.W.Fast.tw13872140724315458165 : Nat := 0
def PySem.W.Fast.tw17790713022032934517 : Nat := 0
def PySem.W.Fast.tw14592651942892573365 : Nat := 0
def PySem.W.Fast.tw4843421403073476277 : Nat := 0
def PySem.W.Fast.tw10159829717946148565 : Nat := 0
def PySem.W.Fast.tw15655748785872378709 : Nat := 0
def PySem.W.Fast.tw1487196138179444597 : Nat := 0
def PySem.W.Fast.tw6464886625352019829 : Nat := 0
def PySem.W.Fast.tw10850468464602755029 : Nat := 0
def PySem.W.Fast.tw5353970433369794517 : Nat := 0
def PySem.W.Fast.tw5126342454670795830 : Nat := 0
def PySem.W.Fast.tw10635633492710423606 : Nat := 0
def PySem.W.Fast.tw16844893907377936534 : Nat := 0
def PySem.W.Fast.tw17069334329193360566 : Nat := 0
def PySem.W.Fast.tw14875723687280692438 : Nat := 0
def PySem.W.Fast.tw13766747209065647350 : Nat := 0
def PySem.W.Fast.tw4661427290524724566 : Nat := 0
def PySem.W.Fast.tw650360950456770902 : Nat := 0
def PySem.W.Fast.tw4577797853682967958 : Nat := 0
def PySem.W.Fast.tw15515796442974734774 : Nat := 0
def PySem.W.Fast.tw17754982263282748854 : Nat := 0
def PySem.W.Fast.tw15332755179732303286 : Nat := 0
def PySem.W.Fast.tw1032122706127009238 : Nat := 0
def PySem.W.Fast.tw4942936324908984886 : Nat := 0
def PySem.W.Fast.tw9732407035485994550 : Nat := 0
def PySem.W.Fast.tw17292482517437808214 : Nat := 0
def PySem.W.Fast.tw204560014710808182 : Nat := 0
def PySem.W.Fast.tw10002854245711393558 : Nat := 0
def PySem.W.Fast.tw2663182718173136694 : Nat := 0
def PySem.W.Fast.tw9225471916373189526 : Nat := 0
def PySem.W.Fast.tw3936514686876922838 : Nat := 0
def PySem.W.Fast.tw14652532096537459670 : Nat := 0
def PySem.W.Fast.tw6836380243061712886 : Nat := 0
def PySem.W.Fast.tw9786188298219760630 : Nat := 0
def PySem.W.Fast.tw9853039061215618071 : Nat := 0
def PySem.W.Fast.tw8181646021886558295 : Nat := 0
def PySem.W.Fast.tw9119878643717714071 : Nat := 0
def PySem.W.Fast.tw16876714365806365847 : Nat := 0
def PySem.W.Fast.tw2634455344297756855 : Nat := 0
def PySem.W.Fast.tw15114557971368630487 : Nat := 0
def PySem.W.Fast.tw5581612385931323639 : Nat := 0
def PySem.W.Fast.tw3928202080232914231 : Nat := 0
def PySem.W.Fast.tw12605450066995206519 : Nat := 0
def PySem.W.Fast.tw9365687054154703255 : Nat := 0
def PySem.W.Fast.tw14066478271346837943 : Nat := 0
def PySem.W.Fast.tw14153938933748023735 : Nat := 0
def PySem.W.Fast.tw17635661194734862807 : Nat := 0
def PySem.W.Fast.tw5938858741702157815 : Nat := 0
def PySem.W.Fast.tw8743746915368031767 : Nat := 0
def PySem.W.Fast.tw13250970167080683063 : Nat := 0
def PySem.W.Fast.tw1376860679839629911 : Nat := 0
def PySem.W.Fast.tw2289848408006687319 : Nat := 0
def PySem.W.Fast.tw15673797184479065719 : Nat := 0
def PySem.W.Fast.tw1091065630892537527 : Nat := 0
def PySem.W.Fast.tw7058551261547039447 : Nat := 0
def PySem.W.Fast.tw9665621534444590807 : Nat := 0
def PySem.W.Fast.tw18216452358108150487 : Nat := 0
def PySem.W.Fast.tw15366432944086674231 : Nat := 0
def PySem.W.Fast.tw352830462322560024 : Nat := 0
def PySem.W.Fast.tw10424589806633263256 : Nat := 0
def PySem.W.Fast.tw16254245369929976984 : Nat := 0
def PySem.W.Fast.tw12136832006763936920 : Nat := 0
def PySem.W.Fast.tw12880753114463312088 : Nat := 0
def PySem.W.Fast.tw12005032775102180568 : Nat := 0
def PySem.W.Fast.tw9695192155731235096 : Nat := 0
def PySem.W.Fast.tw9546474484371747096 : Nat := 0
def PySem.W.Fast.tw1373130245845402968 : Nat := 0
def PySem.W.Fast.tw17283995506598004088 : Nat := 0
def PySem.W.Fast.tw11643237162650419608 : Nat := 0
def PySem.W.Fast.tw10701792104680467896 : Nat := 0
def PySem.W.Fast.tw16345117114802944440 : Nat := 0
def PySem.W.Fast.tw12301695485611644408 : Nat := 0
def PySem.W.Fast.tw8616687827291633176 : Nat := 0
def PySem.W.Fast.tw9931545919821394520 : Nat := 0
def PySem.W.Fast.tw1876691514014267992 : Nat := 0
def PySem.W.Fast.tw5615663128350830200 : Nat := 0
def PySem.W.Fast.tw14641279469816790744 : Nat := 0
def PySem.W.Fast.tw5362125579897592 : Nat := 0
def PySem.W.Fast.tw12851105823120746232 : Nat := 0
def PySem.W.Fast.tw17536926990698875672 : Nat := 0
def PySem.W.Fast.tw10168452746000645912 : Nat := 0
def PySem.W.Fast.tw14095920551218303768 : Nat := 0
def PySem.W.Fast.tw18196952285440622456 : Nat := 0
def PySem.W.Fast.tw17845398971672033208 : Nat := 0
def PySem.W.Fast.tw5328024518278700024 : Nat := 0
def PySem.W.Fast.tw6662172423704398937 : Nat := 0
def PySem.W.Fast.tw13987492999203504249 : Nat := 0
def PySem.W.Fast.tw6490505384498418809 : Nat := 0
def PySem.W.Fast.tw17758136693547205849 : Nat := 0
def PySem.W.Fast.tw14616814195245929689 : Nat := 0
def PySem.W.Fast.tw367370629029398777 : Nat := 0
def PySem.W.Fast.tw7910634238213797113 : Nat := 0
def PySem.W.Fast.tw5973973800805971321 : Nat := 0
def PySem.W.Fast.tw8840795426226732473 : Nat := 0
def PySem.W.Fast.tw14943611340661047769 : Nat := 0
def PySem.W.Fast.tw10796175660751078873 : Nat := 0
def PySem.W.Fast.tw17141908472922943993 : Nat := 0
def PySem.W.Fast.tw8803990509600330233 : Nat := 0
def PySem.W.Fast.tw15017644374606039641 : Nat := 0
def PySem.W.Fast.tw12304065108940912249 : Nat := 0
def PySem.W.Fast.tw6685022008701562681 : Nat := 0
def PySem.W.Fast.tw9319479827547247481 : Nat := 0
def PySem.W.Fast.tw9310197570258141081 : Nat := 0
def PySem.W.Fast.tw8079710076478675897 : Nat := 0
def PySem.W.Fast.tw16004989995582767097 : Nat := 0
def PySem.W.Fast.tw12437421317562615801 : Nat := 0
def PySem.W.Fast.tw15767109343450898554 : Nat := 0
def PySem.W.Fast.tw7904350985393745050 : Nat := 0
def PySem.W.Fast.tw13290969126445746426 : Nat := 0
def PySem.W.Fast.tw937252550283741498 : Nat := 0
def PySem.W.Fast.tw7302439603291091322 : Nat := 0
def PySem.W.Fast.tw13334554313467141530 : Nat := 0
def PySem.W.Fast.tw4945332403174143418 : Nat := 0
def PySem.W.Fast.tw7707431517033308634 : Nat := 0
def PySem.W.Fast.tw4420318259132244442 : Nat := 0
def PySem.W.Fast.tw14845809861855092250 : Nat := 0
def PySem.W.Fast.tw5397938828049552026 : Nat := 0
def PySem.W.Fast.tw6719630999234674330 : Nat := 0
def PySem.W.Fast.tw769007806917026490 : Nat := 0
def PySem.W.Fast.tw17710521806431268602 : Nat := 0
def PySem.W.Fast.tw12974047778486000410 : Nat := 0
def PySem.W.Fast.tw16028215844922941210 : Nat := 0
def PySem.W.Fast.tw5396880613831116634 : Nat := 0
def PySem.W.Fast.tw4122323857700632442 : Nat := 0
def PySem.W.Fast.tw5476413063050731450 : Nat := 0
def PySem.W.Fast.tw7791171822474014682 : Nat := 0
def PySem.W.Fast.tw16706821703375675354 : Nat := 0
def PySem.W.Fast.tw8814568077575513115 : Nat := 0
def PySem.W.Fast.tw10899217826501437531 : Nat := 0
def PySem.W.Fast.tw3515000812561747067 : Nat := 0
def PySem.W.Fast.tw12863437926492950683 : Nat := 0
def PySem.W.Fast.tw4235868285327431867 : Nat := 0
def PySem.W.Fast.tw8076295061042591963 : Nat := 0
def PySem.W.Fast.tw14431386991165280507 : Nat := 0
def PySem.W.Fast.tw14474736556897314043 : Nat := 0
def PySem.W.Fast.tw2970624567170118907 : Nat := 0
def PySem.W.Fast.tw496875323964764443 : Nat := 0
def PySem.W.Fast.tw9241470358028183835 : Nat := 0
def PySem.W.Fast.tw14815555287520189851 : Nat := 0
def PySem.W.Fast.tw14559486338156800411 : Nat := 0
def PySem.W.Fast.tw2903078882989176219 : Nat := 0
def PySem.W.Fast.tw513934755802184123 : Nat := 0
def PySem.W.Fast.tw17294141700378312155 : Nat := 0
def PySem.W.Fast.tw13714943557590925787 : Nat := 0
def PySem.W.Fast.tw7265032806604428795 : Nat := 0
def PySem.W.Fast.tw6627271759633071643 : Nat := 0
def PySem.W.Fast.tw4953408156706825787 : Nat := 0
def PySem.W.Fast.tw9180754482150972091 : Nat := 0
def PySem.W.Fast.tw13507475337661936315 : Nat := 0
def PySem.W.Fast.tw10005991930731681531 : Nat := 0
def PySem.W.Fast.tw6741768610148923163 : Nat := 0
def PySem.W.Fast.tw11495373338522544923 : Nat := 0
def PySem.W.Fast.tw7952514716340627291 : Nat := 0
def PySem.W.Fast.tw4451879616161779675 : Nat := 0
def PySem.W.Fast.tw15872029877493767228 : Nat := 0
def PySem.W.Fast.tw11049423301791686716 : Nat := 0
def PySem.W.Fast.tw15173660088980363356 : Nat := 0
def PySem.W.Fast.tw13287772245021483100 : Nat := 0
def PySem.W.Fast.tw14885797582572729500 : Nat := 0
def PySem.W.Fast.tw11281388200687584412 : Nat := 0
def PySem.W.Fast.tw15083548874780550332 : Nat := 0
def PySem.W.Fast.tw13395243108115911932 : Nat := 0
def PySem.W.Fast.tw12964394767443827964 : Nat := 0
def PySem.W.Fast.tw8481402310728779100 : Nat := 0
def PySem.W.Fast.tw2725082623543175580 : Nat := 0
def PySem.W.Fast.tw1586294200619563420 : Nat := 0
def PySem.W.Fast.tw15965400865969757660 : Nat := 0
def PySem.W.Fast.tw2192211868014837244 : Nat := 0
def PySem.W.Fast.tw9095389335333825116 : Nat := 0
def PySem.W.Fast.tw17173665476006018716 : Nat := 0
def PySem.W.Fast.tw4939814692379763388 : Nat := 0
def PySem.W.Fast.tw4065943663655831228 : Nat := 0
def PySem.W.Fast.tw15536699332777035452 : Nat := 0
def PySem.W.Fast.tw12709403030845549468 : Nat := 0
def PySem.W.Fast.tw16645666707483897788 : Nat := 0
def PySem.W.Fast.tw5501342537365585852 : Nat := 0
def PySem.W.Fast.tw17740282841837348893 : Nat := 0
def PySem.W.Fast.tw11327479159381083261 : Nat := 0
def PySem.W.Fast.tw4125209853716220061 : Nat := 0
def PySem.W.Fast.tw446031420436961469 : Nat := 0
def PySem.W.Fast.tw1165985552455671101 : Nat := 0
def PySem.W.Fast.tw10392025246953128253 : Nat := 0
def PySem.W.Fast.tw2304783753563452765 : Nat := 0
def PySem.W.Fast.tw11669784652513954205 : Nat := 0
def PySem.W.Fast.tw13548101377071477149 : Nat := 0
def PySem.W.Fast.tw6023228337850862109 : Nat := 0
def PySem.W.Fast.tw10528471649968609885 : Nat := 0
def PySem.W.Fast.tw2042134035717799549 : Nat := 0
def PySem.W.Fast.tw188953909196912349 : Nat := 0
def PySem.W.Fast.tw6075198793180140285 : Nat := 0
def PySem.W.Fast.tw5879658867125593885 : Nat := 0
def PySem.W.Fast.tw18112177100893664029 : Nat := 0
def PySem.W.Fast.tw10156886548825841469 : Nat := 0
def PySem.W.Fast.tw12435828907692156733 : Nat := 0
def PySem.W.Fast.tw6795124404188398429 : Nat := 0
def PySem.W.Fast.tw4450148490179137405 : Nat := 0
def PySem.W.Fast.tw16700452736210537405 : Nat := 0
def PySem.W.Fast.tw17583569112494881757 : Nat := 0
def PySem.W.Fast.tw11577585544940352477 : Nat := 0
def PySem.W.Fast.tw777310929332888606 : Nat := 0
def PySem.W.Fast.tw9978967979823620158 : Nat := 0
def PySem.W.Fast.tw1567125725134077022 : Nat := 0
def PySem.W.Fast.tw2078937923737812094 : Nat := 0
def PySem.W.Fast.tw13358846586436731038 : Nat := 0
def PySem.W.Fast.tw15002962287148560542 : Nat := 0
def PySem.W.Fast.tw9224789745650844926 : Nat := 0
def PySem.W.Fast.tw9865557900441200926 : Nat := 0
def PySem.W.Fast.tw12470165478038399294 : Nat := 0
def PySem.W.Fast.tw1698841706622165374 : Nat := 0
def PySem.W.Fast.tw7163125063545071038 : Nat := 0
def PySem.W.Fast.tw5142016710436409790 : Nat := 0
def PySem.W.Fast.tw9851697767976357342 : Nat := 0
def PySem.W.Fast.tw7442582215355484670 : Nat := 0
def PySem.W.Fast.tw17819926441303437886 : Nat := 0
def PySem.W.Fast.tw2456969602116347486 : Nat := 0
def PySem.W.Fast.tw9017142944353256126 : Nat := 0
def PySem.W.Fast.tw16989737958404841182 : Nat := 0
def PySem.W.Fast.tw12837466314370586366 : Nat := 0
def PySem.W.Fast.tw9143747516499223294 : Nat := 0
def PySem.W.Fast.tw7825245547426306846 : Nat := 0
def PySem.W.Fast.tw1559766985740101470 : Nat := 0
def PySem.W.Fast.tw1492056321602913150 : Nat := 0
def PySem.W.Fast.tw5467050520170827646 : Nat := 0
def PySem.W.Fast.tw2648258155344676766 : Nat := 0
def PySem.W.Fast.tw9199760563902760862 : Nat := 0
def PySem.W.Fast.tw18325199917269523422 : Nat := 0
def PySem.W.Fast.tw3780665518928480254 : Nat := 0
def PySem.W.Fast.tw8028407747216073823 : Nat := 0
def PySem.W.Fast.tw2761380274062259359 : Nat := 0
def PySem.W.Fast.tw4303232026064818367 : Nat := 0
def PySem.W.Fast.tw16551001585308949695 : Nat := 0
def PySem.W.Fast.tw13664420171310719231 : Nat := 0
def PySem.W.Fast.tw12643263779827458335 : Nat := 0
def PySem.W.Fast.tw5269488081684581663 : Nat := 0
def PySem.W.Fast.tw4777326672008685951 : Nat := 0
def PySem.W.Fast.tw15822559156235023743 : Nat := 0
def PySem.W.Fast.tw482514528750147999 : Nat := 0
def PySem.W.Fast.tw4177565243967253951 : Nat := 0
def PySem.W.Fast.tw7935556436490993119 : Nat := 0
def PySem.W.Fast.tw10396727813533674015 : Nat := 0
def PySem.W.Fast.tw6062044704035175967 : Nat := 0
def PySem.W.Fast.tw8881611851428133439 : Nat := 0
def PySem.W.Fast.tw6267770126312379007 : Nat := 0
def PySem.W.Fast.tw3749843826482739871 : Nat := 0
def PySem.W.Fast.tw3718258040650459871 : Nat := 0
def PySem.W.Fast.tw13750296077939355391 : Nat := 0
def PySem.W.Fast.tw12425476186766761791 : Nat := 0
def PySem.W.Fast.tw3943717858247680895 : Nat := 0
def PySem.W.Fast.tw7520007067929191391 : Nat := 0
def PySem.W.Fast.tw8690079984927486943 : Nat := 0
def PySem.W.Fast.tw16311606994859617247 : Nat := 0
def PySem.W.Fast.tw9184197724330187775 : Nat := 0
def PySem.W.Fast.tw9575505248843297791 : Nat := 0
def PySem.W.Fast.tw11810645759400230847 : Nat := 0
set_option Elab.async false
set_option linter.all false
set_option maxRecDepth 100000
set_option maxHeartbeats 4000000
namespace My
open PySem L2 L2.MM
noncomputable section
def b_l_law_1 : SM := (mIf (mTest (mOp eqM (mOp modM (mCB l_mix (mCons (mVar 0) (mCons (mC (.int 41)) mNil))) (mC (.int 6))) (mC (.int 0)))) (mSet 3 (mOp modM (mOp addM (mOp addM (mVar 3) (mC (.int 1))) (mOp modM (mCB l_mix (mCons (mVar 0) (mCons (mC (.int 42)) mNil))) (mC (.int 65535)))) (mC (.int 65536)))) mSkip)
def b_l_law_2 : SM := (mIf (mOr (mTest (mOp isNotM (mCB p_close (mCons (mVar 4) mNil)) (mC (.bl true)))) (mTest (mOp isNotM (mCB p_abort (mCons (mVar 4) mNil)) (mC (.bl false))))) (mRet (mC (.bl false))) mSkip)
def b_l_law_3 : SM := (mIf (mOr (mTest (mOp isNotM (mCB p_abort (mCons (mVar 4) mNil)) (mC (.bl true)))) (mTest (mOp isNotM (mCB p_close (mCons (mVar 4) mNil)) (mC (.bl false))))) (mRet (mC (.bl false))) mSkip)
def b_l_law_4 : SM := (mIf (mTest (mOp eqM (mOp modM (mCB l_mix (mCons (mVar 0) (mCons (mC (.int 46)) mNil))) (mC (.int 2))) (mC (.int 0)))) b_l_law_2 b_l_law_3)
def b_l_law_5 : SM := (mIf (mTru (mVar 5)) (mSet 4 (mCB p_opened (mCons (mVar 3) (mCons (mOp modM (mCB l_mix (mCons (mVar 0) (mCons (mC (.int 43)) mNil))) (mC (.int 65536))) (mCons (mVar 2) (mCons (mC (.bl false)) mNil)))))) b_l_law_4)
def b_l_law_6 : SM := (mIf (mOr (mNot (mTru (mCB instG (mCons (mVar 6) (mCons (mC (.ty "bool")) mNil))))) (mTest (mOp neM (mVar 6) (mOp eqM (mVar 3) (mOp ixM (mVar 1) (mC (.int 1))))))) (mRet (mC (.bl false))) mSkip)
def b_l_law_7 : SM := (mIf (mTru (mVar 8)) (mSet 10 (mCB l_bytes (mCons (mTup (mCons (mVar 3) (mCons (mOp ixM (mVar 1) (mC (.int 0))) (mCons (mOp ixM (mVar 1) (mC (.int 3))) (mCons (mC (.int 0)) (mCons (mC (.int 4)) (mCons (mC (.int 0)) (mCons (mC (.int 0)) (mCons (mTup mNil) mNil))))))))) mNil))) (mSet 10 (mCB l_bytes (mCons (mTup (mCons (mVar 3) (mCons (mOp ixM (mVar 1) (mC (.int 0))) (mCons (mC (.int 0)) (mCons (mCB l_plus (mCons (mOp ixM (mVar 1) (mC (.int 2))) (mCons (mVar 9) mNil))) (mCons (mC (.int 20)) (mCons (mC (.int 0)) (mCons (mC (.int 0)) (mCons (mTup mNil) mNil))))))))) mNil))))
def b_l_law_8 : SM := (mIf (mAnd (mTru (mVar 6)) (mAnd (mTru (mVar 5)) (mAnd (mTest (mOp eqM (mOp modM (mOp divM (mVar 7) (mC (.int 2))) (mC (.int 2))) (mC (.int 1)))) (mTest (mOp eqM (mOp modM (mOp divM (mVar 7) (mC (.int 4))) (mC (.int 2))) (mC (.int 0))))))) (mSeq (mSet 11 (mC (.str "syn come")))
      (mSet 10 (mCB l_bytes (mCons (mTup (mCons (mVar 3) (mCons (mOp ixM (mVar 1) (mC (.int 0))) (mCons (mVar 2) (mCons (mCB l_plus (mCons (mOp ixM (mVar 1) (mC (.int 2))) (mCons (mC (.int 1)) mNil))) (mCons (mC (.int 18)) (mCons (mC (.int 64)) (mCons (mC (.int 16)) (mCons (mTup mNil) mNil))))))))) mNil)))) mSkip)
def b_l_law_9 : SM := (mIf (mAnd (mTru (mVar 6)) (mAnd (mTest (mOp eqM (mOp modM (mOp divM (mVar 7) (mC (.int 4))) (mC (.int 2))) (mC (.int 0)))) (mOr (mTru (mVar 8)) (mNot (mTru (mVar 5)))))) b_l_law_7 b_l_law_8)
def b_l_law_10 : SM := (mIf (mOr (mTest (mOp neM (mCB p_state (mCons (mVar 4) mNil)) (mVar 11))) (mTest (mOp neM (mCB p_error (mCons (mVar 4) mNil)) (mC (.str ""))))) (mRet (mC (.bl false))) mSkip)
def b_l_law : SM := (mSeq (mSet 1 (mCB l_any (mCons (mVar 0) (mCons (mC (.int 0)) mNil))))
  (mSeq (mSet 2 (mCB l_mix (mCons (mVar 0) (mCons (mC (.int 40)) mNil))))
  (mSeq (mSet 3 (mOp ixM (mVar 1) (mC (.int 1))))
  (mSeq b_l_law_1
  (mSeq (mSet 4 (mCB p_opened (mCons (mVar 3) (mCons (mOp modM (mCB l_mix (mCons (mVar 0) (mCons (mC (.int 43)) mNil))) (mC (.int 65536))) (mCons (mVar 2) (mCons (mOp eqM (mOp modM (mCB l_mix (mCons (mVar 0) (mCons (mC (.int 44)) mNil))) (mC (.int 2))) (mC (.int 0))) mNil))))))
  (mSeq (mSet 5 (mOp eqM (mOp modM (mCB l_mix (mCons (mVar 0) (mCons (mC (.int 45)) mNil))) (mC (.int 2))) (mC (.int 0))))
  (mSeq b_l_law_5
  (mSeq (mSet 6 (mCB p_arrive (mCons (mVar 4) (mCons (mCB l_bytes (mCons (mVar 1) mNil)) (mCons (mC (.int 100)) mNil)))))
  (mSeq b_l_law_6
  (mSeq (mSet 7 (mOp ixM (mVar 1) (mC (.int 4))))
  (mSeq (mSet 8 (mOp eqM (mOp modM (mOp divM (mVar 7) (mC (.int 16))) (mC (.int 2))) (mC (.int 1))))
  (mSeq (mSet 9 (mOp addM (mOp addM (mCB lenG (mCons (mOp ixM (mVar 1) (mC (.int 7))) mNil)) (mOp modM (mOp divM (mVar 7) (mC (.int 2))) (mC (.int 2)))) (mOp modM (mVar 7) (mC (.int 2)))))
  (mSeq (mSet 10 (mLst mNil))
  (mSeq (mSet 11 (mIte (mTru (mVar 5)) (mC (.str "listen")) (mC (.str "closed"))))
  (mSeq b_l_law_9
  (mSeq b_l_law_10
  (mRet (mAndV (mOp eqM (mCB p_send (mCons (mVar 4) (mCons (mC (.int 100)) mNil))) (mVar 10)) (mOrV (mOp eqM (mVar 10) (mLst mNil)) (mOp eqM (mCB p_send (mCons (mVar 4) (mCons (mC (.int 100)) mNil))) (mLst mNil)))))))))))))))))))))
def l_law : GM := mDef 1 12 b_l_law
theorem bears_eq {s : Seg} (h : s.Ok) : bears s 4 = decide (s.flags / 4 % 2 = 1) ∧ bears s 16 = decide (s.flags / 16 % 2 = 1) ∧ bears s 2 = decide (s.flags / 2 % 2 = 1) := by
  obtain ⟨b1, b2, b4, b8, b16⟩ := bits h.flags
  unfold bears
  rw [b2, b4, b16]
  exact ⟨rfl, rfl, rfl⟩
def rowOf : Option Seg → List Int
  | none => []
  | some s => putL s
@[simp] theorem rowOf_none : rowOf none = [] := rfl
@[simp] theorem rowOf_some (s : Seg) : rowOf (some s) = putL s := rfl
theorem send_of {base : Sto} {l : Nat} {e : EndS} {t : Int} {r : Option Seg} {e' : EndS} (hl : l + 3 < base.length) (g : going e t = (r, e')) (hp : ∀ s, r = some s → s.Put) : p_send [.ref l, .int t] (upE base l e) = .ok (il (rowOf r)) (upE base l e') := by
  rw [t_send hl (by rw [g]; exact hp), g]
  unfold sendRow
  rw [g]
  cases r <;> rfl
def portOf (ns : List Int) (s : Seg) : Int := if mix ns 41 % 6 = 0 then (s.goal + 1 + mix ns 42 % 65535) % 65536 else s.goal
theorem cells4 (e0 e : EndS) : cells 0 e0 ++ cells 4 e = upE (cells 0 e0 ++ cells 4 e) 4 e := by
  simp [cells, upE]
def rest12 : SM := mSeq (mSet 6 (mCB p_arrive (mCons (mVar 4) (mCons (mCB l_bytes (mCons (mVar 1) mNil)) (mCons (mC (.int 100)) mNil)))))
  (mSeq b_l_law_6
  (mSeq (mSet 7 (mOp ixM (mVar 1) (mC (.int 4))))
  (mSeq (mSet 8 (mOp eqM (mOp modM (mOp divM (mVar 7) (mC (.int 16))) (mC (.int 2))) (mC (.int 1))))
  (mSeq (mSet 9 (mOp addM (mOp addM (mCB lenG (mCons (mOp ixM (mVar 1) (mC (.int 7))) mNil)) (mOp modM (mOp divM (mVar 7) (mC (.int 2))) (mC (.int 2)))) (mOp modM (mVar 7) (mC (.int 2)))))
  (mSeq (mSet 10 (mLst mNil))
  (mSeq (mSet 11 (mIte (mTru (mVar 5)) (mC (.str "listen")) (mC (.str "closed"))))
  (mSeq b_l_law_9
  (mSeq b_l_law_10
  (mRet (mAndV (mOp eqM (mCB p_send (mCons (mVar 4) (mCons (mC (.int 100)) mNil))) (mVar 10)) (mOrV (mOp eqM (mVar 10) (mLst mNil)) (mOp eqM (mCB p_send (mCons (mVar 4) (mCons (mC (.int 100)) mNil))) (mLst mNil)))))))))))))
theorem rest_ok {ns : List Int} {s : Seg} {port mine m43 : Int} {li act : Bool} {base : Sto} {l : Nat} {e : EndS} (hs : s.Ok) (hport : 0 ≤ port ∧ port ≤ 65535) (hm : 0 ≤ mine ∧ mine ≤ 4294967295) (hl : l + 3 < base.length)
    (he : e = if li then newEnd port m43 mine false else { newEnd port m43 mine act with state := .closed }) :
    ∃ ρ θ', rest12 [.val (.scr ns), .val s.d, .val (.int mine), .val (.int port), .val (.ref l), .val (.bl li), .no, .no, .no, .no, .no, .no] (upE base l e) = .ok (.rt (.bl true), ρ) θ' := by
  have hb := put_byt hs.put
  have hr := put_right hs
  have hg := get_put hs
  have lb := t_lbytes hs (upE base l e)
  obtain ⟨q4, q16, q2⟩ := bears_eq hs
  have hne : ¬ plus mine 1 = mine := by unfold plus; omega
  by_cases c : s.goal = port
  · have pne : ∀ t : Seg, putL t ≠ [] := fun t z => by
      have := put_len (s := t)
      rw [z] at this
      simp at this
      split at this <;> omega
    have hf : isFor e (getSeg (putL s)) = true := by
      rw [hg, he]
      cases li <;> simp [isFor, newEnd, c]
    have so := hs.src
    have ko : ∀ n k f w m : Int, (0 ≤ n ∧ n ≤ 4294967295) → (0 ≤ k ∧ k ≤ 4294967295) → (0 ≤ f ∧ f ≤ 31) → (0 ≤ w ∧ w ≤ 65535) → (m = 0 ∨ (4 ≤ m ∧ m ≤ 65535 ∧ f / 2 % 2 = 1)) → (Seg.mk port s.src n k f w m []).Ok := fun n k f w m h1 h2 h3 h4 h5 => ⟨hport, so, h1, h2, h3, h4, h5, fun z hz => (nomatch hz), by simp⟩
    have k1 := ko s.ans 0 4 0 0 hs.ans (by omega) (by omega) (by omega) (.inl rfl)
    have k2 := ko 0 (plus s.num (lenS s)) 20 0 0 (by omega) (by unfold plus; omega) (by omega) (by omega) (.inl rfl)
    have k3 := ko mine (plus s.num 1) 18 64 16 hm (by unfold plus; omega) (by omega) (by omega) (.inr ⟨by omega, by omega, by omega⟩)
    have l1 := fun e' => t_lbytes k1 (upE base l e')
    have l2 := fun e' => t_lbytes k2 (upE base l e')
    have l3 := fun e' => t_lbytes k3 (upE base l e')
    have ln : ((s.data.length : Int) + s.flags / 2 % 2 + s.flags % 2) = lenS s := by
      unfold lenS
      rw [(bits hs.flags).1, (bits hs.flags).2.1]
    cases li
    · 
      have st : e.state = .closed := by subst he; rfl
      have ar := t_arrive_closed (now := 100) hl hb hr hf st
      rw [hg] at ar
      have er : e.error = .none := by subst he; rfl
      by_cases r4 : s.flags / 4 % 2 = 1
      · have oe : oweReset e s = e := by simp [oweReset, q4, r4]
        rw [oe] at ar
        have go : going e 100 = (none, e) := by subst he; simp [going, newEnd]
        have sd := send_of hl go (fun s h => by cases h)
        have r4' : ¬ s.flags / 4 % 2 = 0 := by omega
        simp [rest12, lb, ar, b_l_law_6, isT, c, b_l_law_9, b_l_law_8, b_l_law_10, hl, st, er, sd, il_nil, r4']
      · have r4' : s.flags / 4 % 2 = 0 := by omega
        obtain ⟨e1, he1⟩ : ∃ x, x = oweReset e s := ⟨_, rfl⟩
        obtain ⟨e2, he2⟩ : ∃ x : EndS, x = { e with owed_reset := none } := ⟨_, rfl⟩
        rw [← he1] at ar
        rw [show oweReset e s = { e with owed_reset := some (resetFor s) } by simp [oweReset, q4, r4]] at he1
        have go : going e1 100 = (some (resetFor s), e2) := by rw [he1, he2]; simp [going]
        have go2 : going e2 100 = (none, e2) := by subst he2 he; simp [going, newEnd]
        have st1 : e1.state = .closed := by rw [he1]; exact st
        have er1 : e1.error = .none := by rw [he1]; exact er
        have sd2 := send_of hl go2 (fun s h => by cases h)
        clear he1 he2
        by_cases a16 : s.flags / 16 % 2 = 1
        · have rf : resetFor s = ⟨port, s.src, s.ans, 0, 4, 0, 0, []⟩ := by simp [resetFor, q16, a16, c]
          rw [rf] at go
          have sd := send_of hl go (fun t h => by cases h; exact k1.put)
          simp [rest12, lb, ar, b_l_law_6, isT, c, b_l_law_9, b_l_law_7, b_l_law_10, hl, st1, er1, sd, sd2, il_nil, r4', a16, seg_d0, l1, pne]
        · have rf : resetFor s = ⟨port, s.src, 0, plus s.num (lenS s), 20, 0, 0, []⟩ := by simp [resetFor, q16, a16, c]
          rw [rf] at go
          have sd := send_of hl go (fun t h => by cases h; exact k2.put)
          simp [rest12, lb, ar, b_l_law_6, isT, c, b_l_law_9, b_l_law_7, b_l_law_10, hl, st1, er1, sd, sd2, il_nil, r4', a16, seg_d0, l2, pne, ln]
    · 
      have st : e.state = .listen := by subst he; rfl
      have er : e.error = .none := by subst he; rfl
      have ar := t_arrive_listen (now := 100) hl hb hr hf st
      rw [hg] at ar
      have go0 : going e 100 = (none, e) := by subst he; simp [going, newEnd]
      have sd0 := send_of hl go0 (fun s h => by cases h)
      by_cases r4 : s.flags / 4 % 2 = 1
      · rw [show comeListen e s = e by simp [comeListen, q4, r4]] at ar
        have r4' : ¬ s.flags / 4 % 2 = 0 := by omega
        simp [rest12, lb, ar, b_l_law_6, isT, c, b_l_law_9, b_l_law_8, b_l_law_10, hl, st, er, sd0, il_nil, r4']
      · have r4' : s.flags / 4 % 2 = 0 := by omega
        by_cases a16 : s.flags / 16 % 2 = 1
        · obtain ⟨e1, he1⟩ : ∃ x, x = comeListen e s := ⟨_, rfl⟩
          obtain ⟨e2, he2⟩ : ∃ x : EndS, x = { e with owed_reset := none } := ⟨_, rfl⟩
          rw [← he1] at ar
          rw [show comeListen e s = { e with owed_reset := some (resetFor s) } by simp [comeListen, oweReset, q4, q16, r4, a16]] at he1
          have go : going e1 100 = (some (resetFor s), e2) := by rw [he1, he2]; simp [going]
          have go2 : going e2 100 = (none, e2) := by subst he2 he; simp [going, newEnd]
          have st1 : e1.state = .listen := by rw [he1]; exact st
          have er1 : e1.error = .none := by rw [he1]; exact er
          have sd2 := send_of hl go2 (fun s h => by cases h)
          clear he1 he2
          have rf : resetFor s = ⟨port, s.src, s.ans, 0, 4, 0, 0, []⟩ := by simp [resetFor, q16, a16, c]
          rw [rf] at go
          have sd := send_of hl go (fun t h => by cases h; exact k1.put)
          simp [rest12, lb, ar, b_l_law_6, isT, c, b_l_law_9, b_l_law_7, b_l_law_10, hl, st1, er1, sd, sd2, il_nil, r4', a16, seg_d0, l1, pne]
        · by_cases s2 : s.flags / 2 % 2 = 1
          · obtain ⟨e1, he1⟩ : ∃ x, x = comeListen e s := ⟨_, rfl⟩
            rw [← he1] at ar
            rw [show comeListen e s = { hearSyn { e with theirs := s.src } s with state := .synCome } by simp [comeListen, q4, q16, q2, r4, a16, s2]] at he1
            have go : ∃ e2, going e1 100 = (some ⟨port, s.src, mine, plus s.num 1, 18, 64, 16, []⟩, e2) ∧ ∃ e3, going e2 100 = (none, e3) := by
              refine ⟨(newSyn e1 100).2, ?_, { (newSyn e1 100).2 with probes := false }, ?_⟩
              · subst he1 he; simp [going, goingOn, goingAsNew, newSyn, newEnd, hearSyn, paidSyn, startTimer]
              · subst he1 he; simp [going, goingOn, goingAsNew, goingAsProbe, goingAsAnswer, newSyn, newEnd, hearSyn, isDue, startTimer, hne]
            obtain ⟨e2, go, e3, go2⟩ := go
            have st1 : e1.state = .synCome := by rw [he1]
            have er1 : e1.error = .none := by rw [he1]; exact er
            have sd := send_of hl go (fun t h => by cases h; exact k3.put)
            have sd2 := send_of hl go2 (fun s h => by cases h)
            clear he1
            simp [rest12, lb, ar, b_l_law_6, isT, c, b_l_law_9, b_l_law_8, b_l_law_10, hl, st1, er1, sd, sd2, il_nil, r4', a16, s2, seg_d0, l3, pne]
          · rw [show comeListen e s = e by simp [comeListen, q4, q16, q2, r4, a16, s2]] at ar
            simp [rest12, lb, ar, b_l_law_6, isT, c, b_l_law_9, b_l_law_8, b_l_law_10, hl, st, er, sd0, il_nil, r4', a16, s2]
  · have hf : isFor e (getSeg (putL s)) = false := by
      rw [hg, he]
      cases li <;> simp [isFor, newEnd, c]
    have ar := t_arrive_other (now := 100) hl hb hr hf
    have go : going e 100 = (none, e) := by
      subst he
      cases li <;> simp [going, newEnd]
    have sd := send_of hl go (fun s h => by cases h)
    have st : e.state = if li then .listen else .closed := by
      subst he
      cases li <;> rfl
    have er : e.error = .none := by
      subst he
      cases li <;> rfl
    have c' : ¬ port = s.goal := fun z => c z.symm
    cases li
    · simp [rest12, lb, ar, b_l_law_6, isT, c', b_l_law_9, b_l_law_8, b_l_law_10, hl, st, er, sd, il_nil]
    · simp [rest12, lb, ar, b_l_law_6, isT, c', b_l_law_9, b_l_law_8, b_l_law_10, hl, st, er, sd, il_nil]
theorem law_true (ns : List Int) (hn : ns.length ≤ 63) : ∃ θ', l_law [.scr ns] [] = .ok (.bl true) θ' := by
  obtain ⟨s, hs0⟩ : ∃ x, x = anySeg ns 0 := ⟨_, rfl⟩
  have hs : s.Ok := hs0 ▸ any_ok ns 0
  have ta := t_any ns 0 []
  rw [← hs0] at ta
  obtain ⟨mine, hm0⟩ : ∃ x, x = mix ns 40 := ⟨_, rfl⟩
  have hm : 0 ≤ mine ∧ mine ≤ 4294967295 := by have := mix_in ns 40; omega
  obtain ⟨port, hp0⟩ : ∃ x, x = portOf ns s := ⟨_, rfl⟩
  have hg := hs.goal
  have hport : 0 ≤ port ∧ port ≤ 65535 := by
    rw [hp0]; unfold portOf; split <;> omega
  have lp : ∀ r θ, b_l_law_1 (.val (.scr ns) :: .val s.d :: .val (.int mine) :: .val (.int s.goal) :: r) θ = .ok (.nx, .val (.scr ns) :: .val s.d :: .val (.int mine) :: .val (.int port) :: r) θ := by
    intro r θ
    rw [hp0]
    unfold portOf
    by_cases c : mix ns 41 % 6 = 0
    · simp [b_l_law_1, c]
    · simp [b_l_law_1, c]
  have o1 := t_opened (a := port) (b := mix ns 43 % 65536) (c := mine) (act := decide (mix ns 44 % 2 = 0)) []
  have hb : b_l_law = (mSeq (mSet 1 (mCB l_any (mCons (mVar 0) (mCons (mC (.int 0)) mNil))))
    (mSeq (mSet 2 (mCB l_mix (mCons (mVar 0) (mCons (mC (.int 40)) mNil))))
    (mSeq (mSet 3 (mOp ixM (mVar 1) (mC (.int 1))))
    (mSeq b_l_law_1
    (mSeq (mSet 4 (mCB p_opened (mCons (mVar 3) (mCons (mOp modM (mCB l_mix (mCons (mVar 0) (mCons (mC (.int 43)) mNil))) (mC (.int 65536))) (mCons (mVar 2) (mCons (mOp eqM (mOp modM (mCB l_mix (mCons (mVar 0) (mCons (mC (.int 44)) mNil))) (mC (.int 2))) (mC (.int 0))) mNil))))))
    (mSeq (mSet 5 (mOp eqM (mOp modM (mCB l_mix (mCons (mVar 0) (mCons (mC (.int 45)) mNil))) (mC (.int 2))) (mC (.int 0))))
    (mSeq b_l_law_5 rest12))))))) := rfl
  obtain ⟨m43, h43⟩ : ∃ x, x = mix ns 43 % 65536 := ⟨_, rfl⟩
  obtain ⟨act, hact⟩ : ∃ x, x = decide (mix ns 44 % 2 = 0) := ⟨_, rfl⟩
  rw [← h43, ← hact] at o1
  obtain ⟨e0, he0⟩ : ∃ x, x = newEnd port m43 mine act := ⟨_, rfl⟩
  rw [← he0] at o1
  have sg3 : ∀ r θ, mOp ixM (mVar 1) (mC (.int 1)) (.val (.scr ns) :: .val s.d :: r) θ = .ok (.int s.goal) θ := by intro r θ; simp [Seg.d]
  by_cases li : mix ns 45 % 2 = 0
  · have o2 := t_opened (a := port) (b := m43) (c := mine) (act := false) (cells 0 e0)
    obtain ⟨e1, he1⟩ : ∃ x, x = newEnd port m43 mine false := ⟨_, rfl⟩
    rw [← he1] at o2
    have l4 : (cells 0 e0).length = 4 := rfl
    rw [l4] at o2
    have hl : 4 + 3 < (cells 0 e0 ++ cells 4 e1).length := by simp [cells]
    obtain ⟨ρ, θ', h⟩ := rest_ok (ns := ns) (li := true) (act := false) (m43 := m43) (base := cells 0 e0 ++ cells 4 e1) (l := 4) (e := e1) hs hport hm hl he1
    rw [← cells4] at h
    refine ⟨θ', ?_⟩
    simp [l_law, hb, ta, ← hm0, sg3, lp, ← h43, ← hact, o1, b_l_law_5, li, o2, h]
  · have hl : 0 + 3 < (cells 0 e0).length := by simp [cells]
    have st0 : (newEnd port m43 mine act).has_closed = false := rfl
    have c1 : closeE e0 = (true, { e0 with state := .closed }) := by rw [he0]; cases act <;> simp [closeE, newEnd]
    have c2 : abortE e0 = (true, { e0 with state := .closed }) := by rw [he0]; cases act <;> simp [abortE, newEnd]
    obtain ⟨e1, he1⟩ : ∃ x : EndS, x = { e0 with state := .closed } := ⟨_, rfl⟩
    have c3 : closeE e1 = (false, e1) := by rw [he1, he0]; simp [closeE, newEnd]
    have c4 : abortE e1 = (false, e1) := by rw [he1, he0]; simp [abortE, newEnd]
    rw [← he1] at c1 c2
    have q1 := t_close (θ := cells 0 e0) (l := 0) (e := e0) hl
    have q2 := t_abort (θ := cells 0 e0) (l := 0) (e := e0) hl
    have q3 := t_close (θ := cells 0 e0) (l := 0) (e := e1) hl
    have q4 := t_abort (θ := cells 0 e0) (l := 0) (e := e1) hl
    rw [c1, ← cells_up] at q1
    rw [c2, ← cells_up] at q2
    rw [c3] at q3
    rw [c4] at q4
    obtain ⟨ρ, θ', h⟩ := rest_ok (ns := ns) (li := false) (act := act) (m43 := m43) (base := cells 0 e0) (l := 0) (e := e1) hs hport hm hl (by rw [he1, he0]; rfl)
    refine ⟨θ', ?_⟩
    by_cases k : mix ns 46 % 2 = 0
    · simp [l_law, hb, ta, ← hm0, sg3, lp, ← h43, ← hact, o1, b_l_law_5, b_l_law_4, b_l_law_2, li, k, q1, q4, h]
    · simp [l_law, hb, ta, ← hm0, sg3, lp, ← h43, ← hact, o1, b_l_law_5, b_l_law_4, b_l_law_3, li, k, q2, q3, h]
end
def top (i : Nat) : Stmt := PySem.Challenge.pw_wirestream_k12_closed_and_listening.main.body.getD i (.Pass ⟨0, 0, 0, 0⟩)
abbrev s_p_Pile_init : Stmt := inClass (top 2) 0
abbrev s_p_room : Stmt := top 3
abbrev s_p_plus : Stmt := top 9
abbrev s_p_offset : Stmt := top 10
abbrev s_p_End_init : Stmt := inClass (top 30) 0
abbrev s_p_start_timer : Stmt := top 31
abbrev s_p_state : Stmt := top 32
abbrev s_p_error : Stmt := top 33
abbrev s_p_our_window : Stmt := top 34
abbrev s_p_folded : Stmt := top 42
abbrev s_p_sum_of : Stmt := top 43
abbrev s_p_length : Stmt := top 64
abbrev s_p_has : Stmt := top 65
abbrev s_p_bears : Stmt := top 66
abbrev s_p_put : Stmt := top 67
abbrev s_p_bytes_ahead_of_sum : Stmt := top 68
abbrev s_p_byte_of_head : Stmt := top 69
abbrev s_p_bytes_of_most : Stmt := top 70
abbrev s_p_two_bytes : Stmt := top 71
abbrev s_p_four_bytes : Stmt := top 72
abbrev s_p_is_right : Stmt := top 73
abbrev s_p_head_of : Stmt := top 74
abbrev s_p_is_right_long_head : Stmt := top 75
abbrev s_p_get : Stmt := top 76
abbrev s_p_two_at : Stmt := top 77
abbrev s_p_four_at : Stmt := top 78
abbrev s_p_reset_for : Stmt := top 80
abbrev s_p_owe_reset_for : Stmt := top 81
abbrev s_p_come_to_closed : Stmt := top 82
abbrev s_p_come_to_listen : Stmt := top 83
abbrev s_p_hear_syn : Stmt := top 84
abbrev s_p_come_to_syn_sent : Stmt := top 85
abbrev s_p_answers_syn : Stmt := top 86
abbrev s_p_refuse : Stmt := top 87
abbrev s_p_go_on_from_syn_sent : Stmt := top 88
abbrev s_p_arrive : Stmt := top 90
abbrev s_p_is_for : Stmt := top 91
abbrev s_p_come_to_stream : Stmt := top 92
abbrev s_p_opened : Stmt := top 109
abbrev s_p_close : Stmt := top 110
abbrev s_p_abort : Stmt := top 111
abbrev s_p_send : Stmt := top 116
abbrev s_p_going : Stmt := top 117
abbrev s_p_paid_reset : Stmt := top 118
abbrev s_p_is_due : Stmt := top 119
abbrev s_p_again : Stmt := top 120
abbrev s_p_most_at_once : Stmt := top 121
abbrev s_p_paid_syn : Stmt := top 122
abbrev s_p_segment_of : Stmt := top 123
abbrev s_p_going_as_new : Stmt := top 124
abbrev s_p_new_syn : Stmt := top 125
abbrev s_p_has_more : Stmt := top 126
abbrev s_p_has_new_data : Stmt := top 127
abbrev s_p_unsent : Stmt := top 128
abbrev s_p_has_new_fin : Stmt := top 129
abbrev s_p_new_piece : Stmt := top 130
abbrev s_p_new_data : Stmt := top 131
abbrev s_p_new_fin : Stmt := top 132
abbrev s_p_going_as_probe : Stmt := top 133
abbrev s_p_going_as_answer : Stmt := top 134
abbrev s_l_cell : Stmt := top 136
abbrev s_l_mix : Stmt := top 137
abbrev s_l_two : Stmt := top 140
abbrev s_l_folded : Stmt := top 141
abbrev s_l_bytes : Stmt := top 142
abbrev s_l_any : Stmt := top 145
abbrev s_l_plus : Stmt := top 146
abbrev s_l_law : Stmt := top 151
abbrev P_p_Pile_init : List Str := ["self"]
theorem sc_p_Pile_init : FnScope ["self"] P_p_Pile_init (defScope s_p_Pile_init) := ⟨rfl, rfl, rfl, by decide +kernel, rfl, by decide +kernel, by decide +kernel⟩
abbrev P_p_room : List Str := ["pile"]
theorem sc_p_room : FnScope ["pile"] P_p_room (defScope s_p_room) := ⟨rfl, rfl, rfl, by decide +kernel, rfl, by decide +kernel, by decide +kernel⟩
abbrev P_p_plus : List Str := ["number", "step"]
theorem sc_p_plus : FnScope ["number", "step"] P_p_plus (defScope s_p_plus) := ⟨rfl, rfl, rfl, by decide +kernel, rfl, by decide +kernel, by decide +kernel⟩
abbrev P_p_offset : List Str := ["number", "base"]
theorem sc_p_offset : FnScope ["number", "base"] P_p_offset (defScope s_p_offset) := ⟨rfl, rfl, rfl, by decide +kernel, rfl, by decide +kernel, by decide +kernel⟩
abbrev P_p_End_init : List Str := ["self", "ours", "theirs", "first", "active"]
theorem sc_p_End_init : FnScope ["self", "ours", "theirs", "first", "active"] P_p_End_init (defScope s_p_End_init) := ⟨rfl, rfl, rfl, by decide +kernel, rfl, by decide +kernel, by decide +kernel⟩
abbrev P_p_start_timer : List Str := ["end", "now"]
theorem sc_p_start_timer : FnScope ["end", "now"] P_p_start_timer (defScope s_p_start_timer) := ⟨rfl, rfl, rfl, by decide +kernel, rfl, by decide +kernel, by decide +kernel⟩
abbrev P_p_state : List Str := ["end"]
theorem sc_p_state : FnScope ["end"] P_p_state (defScope s_p_state) := ⟨rfl, rfl, rfl, by decide +kernel, rfl, by decide +kernel, by decide +kernel⟩
abbrev P_p_error : List Str := ["end"]
theorem sc_p_error : FnScope ["end"] P_p_error (defScope s_p_error) := ⟨rfl, rfl, rfl, by decide +kernel, rfl, by decide +kernel, by decide +kernel⟩
abbrev P_p_our_window : List Str := ["end"]
theorem sc_p_our_window : FnScope ["end"] P_p_our_window (defScope s_p_our_window) := ⟨rfl, rfl, rfl, by decide +kernel, rfl, by decide +kernel, by decide +kernel⟩
abbrev P_p_folded : List Str := ["row"]
theorem sc_p_folded : FnScope ["row", "total"] P_p_folded (defScope s_p_folded) := ⟨rfl, rfl, rfl, by decide +kernel, rfl, by decide +kernel, by decide +kernel⟩
abbrev P_p_sum_of : List Str := ["row"]
theorem sc_p_sum_of : FnScope ["row"] P_p_sum_of (defScope s_p_sum_of) := ⟨rfl, rfl, rfl, by decide +kernel, rfl, by decide +kernel, by decide +kernel⟩
abbrev P_p_length : List Str := ["segment"]
theorem sc_p_length : FnScope ["segment", "flags"] P_p_length (defScope s_p_length) := ⟨rfl, rfl, rfl, by decide +kernel, rfl, by decide +kernel, by decide +kernel⟩
abbrev P_p_has : List Str := ["flags", "flag"]
theorem sc_p_has : FnScope ["flags", "flag"] P_p_has (defScope s_p_has) := ⟨rfl, rfl, rfl, by decide +kernel, rfl, by decide +kernel, by decide +kernel⟩
abbrev P_p_bears : List Str := ["segment", "flag"]
theorem sc_p_bears : FnScope ["segment", "flag"] P_p_bears (defScope s_p_bears) := ⟨rfl, rfl, rfl, by decide +kernel, rfl, by decide +kernel, by decide +kernel⟩
abbrev P_p_put : List Str := ["segment"]
theorem sc_p_put : FnScope ["segment", "ahead", "behind"] P_p_put (defScope s_p_put) := ⟨rfl, rfl, rfl, by decide +kernel, rfl, by decide +kernel, by decide +kernel⟩
abbrev P_p_bytes_ahead_of_sum : List Str := ["segment"]
theorem sc_p_bytes_ahead_of_sum : FnScope ["segment", "ports", "numbers", "head"] P_p_bytes_ahead_of_sum (defScope s_p_bytes_ahead_of_sum) := ⟨rfl, rfl, rfl, by decide +kernel, rfl, by decide +kernel, by decide +kernel⟩
abbrev P_p_byte_of_head : List Str := ["head"]
theorem sc_p_byte_of_head : FnScope ["head"] P_p_byte_of_head (defScope s_p_byte_of_head) := ⟨rfl, rfl, rfl, by decide +kernel, rfl, by decide +kernel, by decide +kernel⟩
abbrev P_p_bytes_of_most : List Str := ["most"]
theorem sc_p_bytes_of_most : FnScope ["most"] P_p_bytes_of_most (defScope s_p_bytes_of_most) := ⟨rfl, rfl, rfl, by decide +kernel, rfl, by decide +kernel, by decide +kernel⟩
abbrev P_p_two_bytes : List Str := ["number"]
theorem sc_p_two_bytes : FnScope ["number"] P_p_two_bytes (defScope s_p_two_bytes) := ⟨rfl, rfl, rfl, by decide +kernel, rfl, by decide +kernel, by decide +kernel⟩
abbrev P_p_four_bytes : List Str := ["number"]
theorem sc_p_four_bytes : FnScope ["number"] P_p_four_bytes (defScope s_p_four_bytes) := ⟨rfl, rfl, rfl, by decide +kernel, rfl, by decide +kernel, by decide +kernel⟩
abbrev P_p_is_right : List Str := ["row"]
theorem sc_p_is_right : FnScope ["row"] P_p_is_right (defScope s_p_is_right) := ⟨rfl, rfl, rfl, by decide +kernel, rfl, by decide +kernel, by decide +kernel⟩
abbrev P_p_head_of : List Str := ["row"]
theorem sc_p_head_of : FnScope ["row"] P_p_head_of (defScope s_p_head_of) := ⟨rfl, rfl, rfl, by decide +kernel, rfl, by decide +kernel, by decide +kernel⟩
abbrev P_p_is_right_long_head : List Str := ["row"]
theorem sc_p_is_right_long_head : FnScope ["row"] P_p_is_right_long_head (defScope s_p_is_right_long_head) := ⟨rfl, rfl, rfl, by decide +kernel, rfl, by decide +kernel, by decide +kernel⟩
abbrev P_p_get : List Str := ["row"]
theorem sc_p_get : FnScope ["row", "head", "most", "ports", "numbers"] P_p_get (defScope s_p_get) := ⟨rfl, rfl, rfl, by decide +kernel, rfl, by decide +kernel, by decide +kernel⟩
abbrev P_p_two_at : List Str := ["row", "place"]
theorem sc_p_two_at : FnScope ["row", "place"] P_p_two_at (defScope s_p_two_at) := ⟨rfl, rfl, rfl, by decide +kernel, rfl, by decide +kernel, by decide +kernel⟩
abbrev P_p_four_at : List Str := ["row", "place"]
theorem sc_p_four_at : FnScope ["row", "place"] P_p_four_at (defScope s_p_four_at) := ⟨rfl, rfl, rfl, by decide +kernel, rfl, by decide +kernel, by decide +kernel⟩
abbrev P_p_reset_for : List Str := ["segment"]
theorem sc_p_reset_for : FnScope ["segment", "ports"] P_p_reset_for (defScope s_p_reset_for) := ⟨rfl, rfl, rfl, by decide +kernel, rfl, by decide +kernel, by decide +kernel⟩
abbrev P_p_owe_reset_for : List Str := ["end", "segment"]
theorem sc_p_owe_reset_for : FnScope ["end", "segment"] P_p_owe_reset_for (defScope s_p_owe_reset_for) := ⟨rfl, rfl, rfl, by decide +kernel, rfl, by decide +kernel, by decide +kernel⟩
abbrev P_p_come_to_closed : List Str := ["end", "segment"]
theorem sc_p_come_to_closed : FnScope ["end", "segment"] P_p_come_to_closed (defScope s_p_come_to_closed) := ⟨rfl, rfl, rfl, by decide +kernel, rfl, by decide +kernel, by decide +kernel⟩
abbrev P_p_come_to_listen : List Str := ["end", "segment"]
theorem sc_p_come_to_listen : FnScope ["end", "segment"] P_p_come_to_listen (defScope s_p_come_to_listen) := ⟨rfl, rfl, rfl, by decide +kernel, rfl, by decide +kernel, by decide +kernel⟩
abbrev P_p_hear_syn : List Str := ["end", "segment"]
theorem sc_p_hear_syn : FnScope ["end", "segment"] P_p_hear_syn (defScope s_p_hear_syn) := ⟨rfl, rfl, rfl, by decide +kernel, rfl, by decide +kernel, by decide +kernel⟩
abbrev P_p_come_to_syn_sent : List Str := ["end", "segment", "now"]
theorem sc_p_come_to_syn_sent : FnScope ["end", "segment", "now"] P_p_come_to_syn_sent (defScope s_p_come_to_syn_sent) := ⟨rfl, rfl, rfl, by decide +kernel, rfl, by decide +kernel, by decide +kernel⟩
abbrev P_p_answers_syn : List Str := ["end", "segment"]
theorem sc_p_answers_syn : FnScope ["end", "segment"] P_p_answers_syn (defScope s_p_answers_syn) := ⟨rfl, rfl, rfl, by decide +kernel, rfl, by decide +kernel, by decide +kernel⟩
abbrev P_p_refuse : List Str := ["end", "segment"]
theorem sc_p_refuse : FnScope ["end", "segment"] P_p_refuse (defScope s_p_refuse) := ⟨rfl, rfl, rfl, by decide +kernel, rfl, by decide +kernel, by decide +kernel⟩
abbrev P_p_go_on_from_syn_sent : List Str := ["end", "segment", "now"]
theorem sc_p_go_on_from_syn_sent : FnScope ["end", "segment", "now"] P_p_go_on_from_syn_sent (defScope s_p_go_on_from_syn_sent) := ⟨rfl, rfl, rfl, by decide +kernel, rfl, by decide +kernel, by decide +kernel⟩
abbrev P_p_arrive : List Str := ["end", "row", "now"]
theorem sc_p_arrive : FnScope ["end", "row", "now", "segment"] P_p_arrive (defScope s_p_arrive) := ⟨rfl, rfl, rfl, by decide +kernel, rfl, by decide +kernel, by decide +kernel⟩
abbrev P_p_is_for : List Str := ["end", "segment"]
theorem sc_p_is_for : FnScope ["end", "segment"] P_p_is_for (defScope s_p_is_for) := ⟨rfl, rfl, rfl, by decide +kernel, rfl, by decide +kernel, by decide +kernel⟩
abbrev P_p_come_to_stream : List Str := ["end", "segment", "now"]
theorem sc_p_come_to_stream : FnScope ["end", "segment", "now"] P_p_come_to_stream (defScope s_p_come_to_stream) := ⟨rfl, rfl, rfl, by decide +kernel, rfl, by decide +kernel, by decide +kernel⟩
abbrev P_p_opened : List Str := ["ours", "theirs", "first", "active"]
theorem sc_p_opened : FnScope ["ours", "theirs", "first", "active"] P_p_opened (defScope s_p_opened) := ⟨rfl, rfl, rfl, by decide +kernel, rfl, by decide +kernel, by decide +kernel⟩
abbrev P_p_close : List Str := ["end"]
theorem sc_p_close : FnScope ["end"] P_p_close (defScope s_p_close) := ⟨rfl, rfl, rfl, by decide +kernel, rfl, by decide +kernel, by decide +kernel⟩
abbrev P_p_abort : List Str := ["end"]
theorem sc_p_abort : FnScope ["end"] P_p_abort (defScope s_p_abort) := ⟨rfl, rfl, rfl, by decide +kernel, rfl, by decide +kernel, by decide +kernel⟩
abbrev P_p_send : List Str := ["end", "now"]
theorem sc_p_send : FnScope ["end", "now", "segment"] P_p_send (defScope s_p_send) := ⟨rfl, rfl, rfl, by decide +kernel, rfl, by decide +kernel, by decide +kernel⟩
abbrev P_p_going : List Str := ["end", "now"]
theorem sc_p_going : FnScope ["end", "now", "segment"] P_p_going (defScope s_p_going) := ⟨rfl, rfl, rfl, by decide +kernel, rfl, by decide +kernel, by decide +kernel⟩
abbrev P_p_paid_reset : List Str := ["end"]
theorem sc_p_paid_reset : FnScope ["end", "segment"] P_p_paid_reset (defScope s_p_paid_reset) := ⟨rfl, rfl, rfl, by decide +kernel, rfl, by decide +kernel, by decide +kernel⟩
abbrev P_p_is_due : List Str := ["end", "now"]
theorem sc_p_is_due : FnScope ["end", "now"] P_p_is_due (defScope s_p_is_due) := ⟨rfl, rfl, rfl, by decide +kernel, rfl, by decide +kernel, by decide +kernel⟩
abbrev P_p_again : List Str := ["end", "now"]
theorem sc_p_again : FnScope ["end", "now", "data"] P_p_again (defScope s_p_again) := ⟨rfl, rfl, rfl, by decide +kernel, rfl, by decide +kernel, by decide +kernel⟩
abbrev P_p_most_at_once : List Str := ["end"]
theorem sc_p_most_at_once : FnScope ["end"] P_p_most_at_once (defScope s_p_most_at_once) := ⟨rfl, rfl, rfl, by decide +kernel, rfl, by decide +kernel, by decide +kernel⟩
abbrev P_p_paid_syn : List Str := ["end"]
theorem sc_p_paid_syn : FnScope ["end"] P_p_paid_syn (defScope s_p_paid_syn) := ⟨rfl, rfl, rfl, by decide +kernel, rfl, by decide +kernel, by decide +kernel⟩
abbrev P_p_segment_of : List Str := ["end", "number", "flags", "data"]
theorem sc_p_segment_of : FnScope ["end", "number", "flags", "data"] P_p_segment_of (defScope s_p_segment_of) := ⟨rfl, rfl, rfl, by decide +kernel, rfl, by decide +kernel, by decide +kernel⟩
abbrev P_p_going_as_new : List Str := ["end", "now"]
theorem sc_p_going_as_new : FnScope ["end", "now", "room"] P_p_going_as_new (defScope s_p_going_as_new) := ⟨rfl, rfl, rfl, by decide +kernel, rfl, by decide +kernel, by decide +kernel⟩
abbrev P_p_new_syn : List Str := ["end", "now"]
theorem sc_p_new_syn : FnScope ["end", "now"] P_p_new_syn (defScope s_p_new_syn) := ⟨rfl, rfl, rfl, by decide +kernel, rfl, by decide +kernel, by decide +kernel⟩
abbrev P_p_has_more : List Str := ["end"]
theorem sc_p_has_more : FnScope ["end"] P_p_has_more (defScope s_p_has_more) := ⟨rfl, rfl, rfl, by decide +kernel, rfl, by decide +kernel, by decide +kernel⟩
abbrev P_p_has_new_data : List Str := ["end"]
theorem sc_p_has_new_data : FnScope ["end"] P_p_has_new_data (defScope s_p_has_new_data) := ⟨rfl, rfl, rfl, by decide +kernel, rfl, by decide +kernel, by decide +kernel⟩
abbrev P_p_unsent : List Str := ["end"]
theorem sc_p_unsent : FnScope ["end"] P_p_unsent (defScope s_p_unsent) := ⟨rfl, rfl, rfl, by decide +kernel, rfl, by decide +kernel, by decide +kernel⟩
abbrev P_p_has_new_fin : List Str := ["end"]
theorem sc_p_has_new_fin : FnScope ["end"] P_p_has_new_fin (defScope s_p_has_new_fin) := ⟨rfl, rfl, rfl, by decide +kernel, rfl, by decide +kernel, by decide +kernel⟩
abbrev P_p_new_piece : List Str := ["end", "room"]
theorem sc_p_new_piece : FnScope ["end", "room"] P_p_new_piece (defScope s_p_new_piece) := ⟨rfl, rfl, rfl, by decide +kernel, rfl, by decide +kernel, by decide +kernel⟩
abbrev P_p_new_data : List Str := ["end", "room"]
theorem sc_p_new_data : FnScope ["end", "room", "number", "many", "place"] P_p_new_data (defScope s_p_new_data) := ⟨rfl, rfl, rfl, by decide +kernel, rfl, by decide +kernel, by decide +kernel⟩
abbrev P_p_new_fin : List Str := ["end"]
theorem sc_p_new_fin : FnScope ["end", "number"] P_p_new_fin (defScope s_p_new_fin) := ⟨rfl, rfl, rfl, by decide +kernel, rfl, by decide +kernel, by decide +kernel⟩
abbrev P_p_going_as_probe : List Str := ["end", "now"]
theorem sc_p_going_as_probe : FnScope ["end", "now"] P_p_going_as_probe (defScope s_p_going_as_probe) := ⟨rfl, rfl, rfl, by decide +kernel, rfl, by decide +kernel, by decide +kernel⟩
abbrev P_p_going_as_answer : List Str := ["end"]
theorem sc_p_going_as_answer : FnScope ["end"] P_p_going_as_answer (defScope s_p_going_as_answer) := ⟨rfl, rfl, rfl, by decide +kernel, rfl, by decide +kernel, by decide +kernel⟩
abbrev P_l_cell : List Str := ["_law_script", "_law_k"]
theorem sc_l_cell : FnScope ["_law_script", "_law_k"] P_l_cell (defScope s_l_cell) := ⟨rfl, rfl, rfl, by decide +kernel, rfl, by decide +kernel, by decide +kernel⟩
abbrev P_l_mix : List Str := ["_law_script", "_law_k"]
theorem sc_l_mix : FnScope ["_law_script", "_law_k", "_law_number"] P_l_mix (defScope s_l_mix) := ⟨rfl, rfl, rfl, by decide +kernel, rfl, by decide +kernel, by decide +kernel⟩
abbrev P_l_two : List Str := ["_law_number"]
theorem sc_l_two : FnScope ["_law_number"] P_l_two (defScope s_l_two) := ⟨rfl, rfl, rfl, by decide +kernel, rfl, by decide +kernel, by decide +kernel⟩
abbrev P_l_folded : List Str := ["_law_row"]
theorem sc_l_folded : FnScope ["_law_row", "_law_total", "_law_k"] P_l_folded (defScope s_l_folded) := ⟨rfl, rfl, rfl, by decide +kernel, rfl, by decide +kernel, by decide +kernel⟩
abbrev P_l_bytes : List Str := ["_law_segment_here"]
theorem sc_l_bytes : FnScope ["_law_segment_here", "_law_row", "_law_number"] P_l_bytes (defScope s_l_bytes) := ⟨rfl, rfl, rfl, by decide +kernel, rfl, by decide +kernel, by decide +kernel⟩
abbrev P_l_any : List Str := ["_law_script", "_law_base"]
theorem sc_l_any : FnScope ["_law_script", "_law_base", "_law_flags", "_law_most", "_law_numbers", "_law_k", "_law_number", "_law_ports", "_law_size", "_law_data", "_law_window"] P_l_any (defScope s_l_any) := ⟨rfl, rfl, rfl, by decide +kernel, rfl, by decide +kernel, by decide +kernel⟩
abbrev P_l_plus : List Str := ["_law_number", "_law_step"]
theorem sc_l_plus : FnScope ["_law_number", "_law_step"] P_l_plus (defScope s_l_plus) := ⟨rfl, rfl, rfl, by decide +kernel, rfl, by decide +kernel, by decide +kernel⟩
abbrev P_l_law : List Str := ["_law_script"]
theorem sc_l_law : FnScope ["_law_script", "_law_segment_here", "_law_mine", "_law_port", "_law_end", "_law_listens", "_law_heard", "_law_flags", "_law_answers", "_law_size", "_law_due", "_law_after"] P_l_law (defScope s_l_law) := ⟨rfl, rfl, rfl, by decide +kernel, rfl, by decide +kernel, by decide +kernel⟩
structure Glb (K : PySem.W.Frag) (mg : Str → Option Value) : Prop where
  c_ACK : ∃ t, mg "ACK" = some (.int 16 t)
  c_ANSWER : ∃ t, mg "ANSWER" = some (.int 3 t)
  c_CLOSED : ∃ t, mg "CLOSED" = some (.str "closed" t)
  c_CLOSE_WAIT : ∃ t, mg "CLOSE_WAIT" = some (.str "close wait" t)
  c_CLOSING : ∃ t, mg "CLOSING" = some (.str "closing" t)
  c_DATA : ∃ t, mg "DATA" = some (.int 7 t)
  c_FIN : ∃ t, mg "FIN" = some (.int 1 t)
  c_FIRST_WAIT : ∃ t, mg "FIRST_WAIT" = some (.int 1000 t)
  c_FLAGS : ∃ t, mg "FLAGS" = some (.int 4 t)
  c_GOAL : ∃ t, mg "GOAL" = some (.int 1 t)
  c_GREATEST_DATA : ∃ t, mg "GREATEST_DATA" = some (.int 16 t)
  c_GREATEST_FLAGS : ∃ t, mg "GREATEST_FLAGS" = some (.int 31 t)
  c_GREATEST_WORD : ∃ t, mg "GREATEST_WORD" = some (.int 65535 t)
  c_HALF_ROUND : ∃ t, mg "HALF_ROUND" = some (.int 2147483648 t)
  c_LAST_ACK : ∃ t, mg "LAST_ACK" = some (.str "last ack" t)
  c_LAST_WAIT : ∃ t, mg "LAST_WAIT" = some (.int 120000 t)
  c_LEAST_MOST : ∃ t, mg "LEAST_MOST" = some (.int 4 t)
  c_LISTEN : ∃ t, mg "LISTEN" = some (.str "listen" t)
  c_LONGEST_WAIT : ∃ t, mg "LONGEST_WAIT" = some (.int 16000 t)
  c_LONG_HEAD : ∃ t, mg "LONG_HEAD" = some (.int 24 t)
  c_MOST : ∃ t, mg "MOST" = some (.int 6 t)
  c_MOST_TRIES : ∃ t, mg "MOST_TRIES" = some (.int 6 t)
  c_MOST_UNTOLD : ∃ t, mg "MOST_UNTOLD" = some (.int 12 t)
  c_NO_ERROR : ∃ t, mg "NO_ERROR" = some (.str "" t)
  c_NUMBER : ∃ t, mg "NUMBER" = some (.int 2 t)
  c_OPEN : ∃ t, mg "OPEN" = some (.str "open" t)
  c_PSH : ∃ t, mg "PSH" = some (.int 8 t)
  c_REFUSED : ∃ t, mg "REFUSED" = some (.str "refused" t)
  c_RIGHT_SUM : ∃ t, mg "RIGHT_SUM" = some (.int 65535 t)
  c_ROOM : ∃ t, mg "ROOM" = some (.int 64 t)
  c_ROUND : ∃ t, mg "ROUND" = some (.int 4294967296 t)
  c_RST : ∃ t, mg "RST" = some (.int 4 t)
  c_SHORT_HEAD : ∃ t, mg "SHORT_HEAD" = some (.int 20 t)
  c_SOURCE : ∃ t, mg "SOURCE" = some (.int 0 t)
  c_SYN : ∃ t, mg "SYN" = some (.int 2 t)
  c_SYN_COME : ∃ t, mg "SYN_COME" = some (.str "syn come" t)
  c_SYN_SENT : ∃ t, mg "SYN_SENT" = some (.str "syn sent" t)
  c_TIME : ∃ t, mg "TIME" = some (.str "time" t)
  c_TIME_WAIT : ∃ t, mg "TIME_WAIT" = some (.str "time wait" t)
  c_WAIT_ONE : ∃ t, mg "WAIT_ONE" = some (.str "wait one" t)
  c_WINDOW : ∃ t, mg "WINDOW" = some (.int 5 t)
  c_WORDS : ∃ t, mg "WORDS" = some (.int 65536 t)
  b_bool : mg "bool" = none
  b_int : mg "int" = none
  b_isinstance : mg "isinstance" = none
  b_len : mg "len" = none
  b_list : mg "list" = none
  b_min : mg "min" = none
  b_range : mg "range" = none
  b_sum : mg "sum" = none
  b_tuple : mg "tuple" = none
  k_End : Cls K (clOf mg "End")
  k_Pile : Cls K (clOf mg "Pile")
  n_End_behind : NoAttr K (clOf mg "End") "behind"
  n_End_come : NoAttr K (clOf mg "End") "come"
  n_End_early : NoAttr K (clOf mg "End") "early"
  n_End_early_fin : NoAttr K (clOf mg "End") "early_fin"
  n_End_error : NoAttr K (clOf mg "End") "error"
  n_End_first : NoAttr K (clOf mg "End") "first"
  n_End_has_closed : NoAttr K (clOf mg "End") "has_closed"
  n_End_most : NoAttr K (clOf mg "End") "most"
  n_End_nxt : NoAttr K (clOf mg "End") "nxt"
  n_End_ours : NoAttr K (clOf mg "End") "ours"
  n_End_owed_reset : NoAttr K (clOf mg "End") "owed_reset"
  n_End_owes_answer : NoAttr K (clOf mg "End") "owes_answer"
  n_End_owes_syn : NoAttr K (clOf mg "End") "owes_syn"
  n_End_probes : NoAttr K (clOf mg "End") "probes"
  n_End_rcv : NoAttr K (clOf mg "End") "rcv"
  n_End_since : NoAttr K (clOf mg "End") "since"
  n_End_state : NoAttr K (clOf mg "End") "state"
  n_End_theirs : NoAttr K (clOf mg "End") "theirs"
  n_End_told : NoAttr K (clOf mg "End") "told"
  n_End_told_by : NoAttr K (clOf mg "End") "told_by"
  n_End_tries : NoAttr K (clOf mg "End") "tries"
  n_End_una : NoAttr K (clOf mg "End") "una"
  n_End_wait : NoAttr K (clOf mg "End") "wait"
  n_End_wnd : NoAttr K (clOf mg "End") "wnd"
  n_End_written : NoAttr K (clOf mg "End") "written"
  n_Pile_row : NoAttr K (clOf mg "Pile") "row"
section
variable {P : Program} {w : World} {K : PySem.W.Frag} {mg : Str → Option Value} {base : Heap}
theorem ok_p_Pile_init (D : Mk0 K mg "Pile" "Pile.__init__" s_p_Pile_init P_p_Pile_init) (g : Glb K mg)  : MMk P w K mg base 1 "Pile" p_Pile_init :=
  mk0 D sc_p_Pile_init 1 1 rfl rfl fun f cdv A outer s H E hr => (mss_one (ms_fld (all1 ⟨g.k_Pile, g.n_Pile_row⟩) (me_var 0) (me_lst ma_nil)))
theorem ok_p_room (D : Def0 K mg "room" s_p_room P_p_room) (g : Glb K mg)  : MDef P w K mg base 1 "room" p_room :=
  mdef D sc_p_room 1 1 rfl rfl fun f cdv A outer s H E hr => (mss_one (ms_ret (me_op o_sub (me_gint g.c_ROOM) (me_callB c_len g.b_len PySem.boot_len (ma_cons (me_fld (all1 ⟨g.k_Pile, g.n_Pile_row⟩) (me_var 0)) ma_nil)))))
theorem ok_p_plus (D : Def0 K mg "plus" s_p_plus P_p_plus) (g : Glb K mg)  : MDef P w K mg base 1 "plus" p_plus :=
  mdef D sc_p_plus 2 2 rfl rfl fun f cdv A outer s H E hr => (mss_one (ms_ret (me_op o_mod (me_op o_add (me_var 0) (me_var 1)) (me_gint g.c_ROUND))))
theorem ok_p_offset (D : Def0 K mg "offset" s_p_offset P_p_offset) (g : Glb K mg)  : MDef P w K mg base 1 "offset" p_offset :=
  mdef D sc_p_offset 2 2 rfl rfl fun f cdv A outer s H E hr => (mss_one (ms_ret (me_op o_sub (me_op o_mod (me_op o_add (me_op o_sub (me_var 0) (me_var 1)) (me_gint g.c_HALF_ROUND)) (me_gint g.c_ROUND)) (me_gint g.c_HALF_ROUND))))
theorem ok_p_End_init (D : Mk0 K mg "End" "End.__init__" s_p_End_init P_p_End_init) (g : Glb K mg) (d_p_Pile_init : MMk P w K mg base 1 "Pile" p_Pile_init) (d_p_plus : MDef P w K mg base 1 "plus" p_plus) : MMk P w K mg base 3 "End" p_End_init :=
  mk0 D sc_p_End_init 5 5 rfl rfl fun f cdv A outer s H E hr => (mss_cons (ms_fld (all1 ⟨g.k_End, g.n_End_ours⟩) (me_var 0) (me_var 1))
  (mss_cons (ms_fld (all1 ⟨g.k_End, g.n_End_theirs⟩) (me_var 0) (me_var 2))
  (mss_cons (ms_fld (all1 ⟨g.k_End, g.n_End_state⟩) (me_var 0) (me_ite (mt_truth (me_var 4)) (me_gstr g.c_SYN_SENT) (me_gstr g.c_LISTEN)))
  (mss_cons (ms_fld (all1 ⟨g.k_End, g.n_End_error⟩) (me_var 0) (me_gstr g.c_NO_ERROR))
  (mss_cons (ms_fld (all1 ⟨g.k_End, g.n_End_first⟩) (me_var 0) (me_var 3))
  (mss_cons (ms_fld (all1 ⟨g.k_End, g.n_End_una⟩) (me_var 0) (me_var 3))
  (mss_cons (ms_fld (all1 ⟨g.k_End, g.n_End_nxt⟩) (me_var 0) (me_var 3))
  (mss_cons (ms_fld (all1 ⟨g.k_End, g.n_End_rcv⟩) (me_var 0) me_int)
  (mss_cons (ms_fld (all1 ⟨g.k_End, g.n_End_wnd⟩) (me_var 0) me_int)
  (mss_cons (ms_fld (all1 ⟨g.k_End, g.n_End_told⟩) (me_var 0) me_int)
  (mss_cons (ms_fld (all1 ⟨g.k_End, g.n_End_told_by⟩) (me_var 0) me_int)
  (mss_cons (ms_fld (all1 ⟨g.k_End, g.n_End_most⟩) (me_var 0) (me_gint g.c_MOST_UNTOLD))
  (mss_cons (ms_fld (all1 ⟨g.k_End, g.n_End_written⟩) (me_var 0) (me_make0 d_p_Pile_init hr (by decide)))
  (mss_cons (ms_fld (all1 ⟨g.k_End, g.n_End_come⟩) (me_var 0) (me_make0 d_p_Pile_init hr (by decide)))
  (mss_cons (ms_fld (all1 ⟨g.k_End, g.n_End_early⟩) (me_var 0) me_dict0)
  (mss_cons (ms_fld (all1 ⟨g.k_End, g.n_End_early_fin⟩) (me_var 0) me_non)
  (mss_cons (ms_fld (all1 ⟨g.k_End, g.n_End_has_closed⟩) (me_var 0) me_bl)
  (mss_cons (ms_fld (all1 ⟨g.k_End, g.n_End_behind⟩) (me_var 0) (me_call d_p_plus hr (by decide) (ma_cons (me_var 3) (ma_cons me_int ma_nil))))
  (mss_cons (ms_fld (all1 ⟨g.k_End, g.n_End_owed_reset⟩) (me_var 0) me_non)
  (mss_cons (ms_fld (all1 ⟨g.k_End, g.n_End_owes_syn⟩) (me_var 0) me_bl)
  (mss_cons (ms_fld (all1 ⟨g.k_End, g.n_End_owes_answer⟩) (me_var 0) me_bl)
  (mss_cons (ms_fld (all1 ⟨g.k_End, g.n_End_probes⟩) (me_var 0) me_bl)
  (mss_cons (ms_fld (all1 ⟨g.k_End, g.n_End_since⟩) (me_var 0) me_int)
  (mss_cons (ms_fld (all1 ⟨g.k_End, g.n_End_wait⟩) (me_var 0) (me_gint g.c_FIRST_WAIT))
  (mss_one (ms_fld (all1 ⟨g.k_End, g.n_End_tries⟩) (me_var 0) me_int))))))))))))))))))))))))))
theorem ok_p_start_timer (D : Def0 K mg "start_timer" s_p_start_timer P_p_start_timer) (g : Glb K mg)  : MDef P w K mg base 1 "start_timer" p_start_timer :=
  mdef D sc_p_start_timer 2 2 rfl rfl fun f cdv A outer s H E hr => (mss_cons (ms_fld (all1 ⟨g.k_End, g.n_End_since⟩) (me_var 0) (me_var 1))
  (mss_cons (ms_fld (all1 ⟨g.k_End, g.n_End_wait⟩) (me_var 0) (me_gint g.c_FIRST_WAIT))
  (mss_one (ms_fld (all1 ⟨g.k_End, g.n_End_tries⟩) (me_var 0) me_int))))
theorem ok_p_state (D : Def0 K mg "state" s_p_state P_p_state) (g : Glb K mg)  : MDef P w K mg base 1 "state" p_state :=
  mdef D sc_p_state 1 1 rfl rfl fun f cdv A outer s H E hr => (mss_one (ms_ret (me_fld (all1 ⟨g.k_End, g.n_End_state⟩) (me_var 0))))
theorem ok_p_error (D : Def0 K mg "error" s_p_error P_p_error) (g : Glb K mg)  : MDef P w K mg base 1 "error" p_error :=
  mdef D sc_p_error 1 1 rfl rfl fun f cdv A outer s H E hr => (mss_one (ms_ret (me_fld (all1 ⟨g.k_End, g.n_End_error⟩) (me_var 0))))
theorem ok_p_our_window (D : Def0 K mg "our_window" s_p_our_window P_p_our_window) (g : Glb K mg) (d_p_room : MDef P w K mg base 1 "room" p_room) : MDef P w K mg base 2 "our_window" p_our_window :=
  mdef D sc_p_our_window 1 1 rfl rfl fun f cdv A outer s H E hr => (mss_one (ms_ret (me_call d_p_room hr (by decide) (ma_cons (me_fld (all1 ⟨g.k_End, g.n_End_come⟩) (me_var 0)) ma_nil))))
theorem ok_p_folded (D : Def0 K mg "folded" s_p_folded P_p_folded) (g : Glb K mg)  : MDef P w K mg base 1 "folded" p_folded :=
  mdef D sc_p_folded 1 2 rfl rfl fun f cdv A outer s H E hr => (mss_cons (ms_set 1 sc_p_folded.nd (me_op o_add (me_op o_mul me_int (me_callB c_sum g.b_sum PyProof.Rows.boot_sum (ma_cons (me_slice3 (me_var 0) mo_none mo_none (mo_some me_int)) ma_nil))) (me_callB c_sum g.b_sum PyProof.Rows.boot_sum (ma_cons (me_slice3 (me_var 0) (mo_some me_int) mo_none (mo_some me_int)) ma_nil))))
  (mss_cons (ms_while 200 PassesOwn.never (mt_cmp o_gt (me_var 1) (me_gint g.c_GREATEST_WORD)) (mss_one (ms_set 1 sc_p_folded.nd (me_op o_add (me_op o_mod (me_var 1) (me_gint g.c_WORDS)) (me_op o_div (me_var 1) (me_gint g.c_WORDS))))))
  (mss_one (ms_ret (me_var 1)))))
theorem ok_p_sum_of (D : Def0 K mg "sum_of" s_p_sum_of P_p_sum_of) (g : Glb K mg) (d_p_folded : MDef P w K mg base 1 "folded" p_folded) : MDef P w K mg base 2 "sum_of" p_sum_of :=
  mdef D sc_p_sum_of 1 1 rfl rfl fun f cdv A outer s H E hr => (mss_one (ms_ret (me_op o_sub (me_gint g.c_GREATEST_WORD) (me_call d_p_folded hr (by decide) (ma_cons (me_var 0) ma_nil)))))
theorem ok_p_has (D : Def0 K mg "has" s_p_has P_p_has) (g : Glb K mg)  : MDef P w K mg base 1 "has" p_has :=
  mdef D sc_p_has 2 2 rfl rfl fun f cdv A outer s H E hr => (mss_one (ms_ret (me_ite (mt_cmp (o_ne hr.units) (me_op o_and (me_var 0) (me_var 1)) me_int) me_int me_int)))
theorem ok_p_length (D : Def0 K mg "length" s_p_length P_p_length) (g : Glb K mg) (d_p_has : MDef P w K mg base 1 "has" p_has) : MDef P w K mg base 2 "length" p_length :=
  mdef D sc_p_length 1 2 rfl rfl fun f cdv A outer s H E hr => (mss_cons (ms_set 1 sc_p_length.nd (me_ix ix_ok (me_var 0) (me_gint g.c_FLAGS)))
  (mss_one (ms_ret (me_op o_add (me_op o_add (me_callB c_len g.b_len PySem.boot_len (ma_cons (me_ix ix_ok (me_var 0) (me_gint g.c_DATA)) ma_nil)) (me_call d_p_has hr (by decide) (ma_cons (me_var 1) (ma_cons (me_gint g.c_SYN) ma_nil)))) (me_call d_p_has hr (by decide) (ma_cons (me_var 1) (ma_cons (me_gint g.c_FIN) ma_nil)))))))
theorem ok_p_bears (D : Def0 K mg "bears" s_p_bears P_p_bears) (g : Glb K mg) (d_p_has : MDef P w K mg base 1 "has" p_has) : MDef P w K mg base 2 "bears" p_bears :=
  mdef D sc_p_bears 2 2 rfl rfl fun f cdv A outer s H E hr => (mss_one (ms_ret (me_cmp (o_eq hr.units) (me_call d_p_has hr (by decide) (ma_cons (me_ix ix_ok (me_var 0) (me_gint g.c_FLAGS)) (ma_cons (me_var 1) ma_nil))) me_int)))
theorem ok_p_byte_of_head (D : Def0 K mg "byte_of_head" s_p_byte_of_head P_p_byte_of_head) (g : Glb K mg)  : MDef P w K mg base 1 "byte_of_head" p_byte_of_head :=
  mdef D sc_p_byte_of_head 1 1 rfl rfl fun f cdv A outer s H E hr => (mss_one (ms_ret (me_op o_mul me_int (me_op o_div (me_var 0) me_int))))
theorem ok_p_two_bytes (D : Def0 K mg "two_bytes" s_p_two_bytes P_p_two_bytes) (g : Glb K mg)  : MDef P w K mg base 1 "two_bytes" p_two_bytes :=
  mdef D sc_p_two_bytes 1 1 rfl rfl fun f cdv A outer s H E hr => (mss_one (ms_ret (me_lst (ma_cons (me_op o_mod (me_op o_div (me_var 0) me_int) me_int) (ma_cons (me_op o_mod (me_var 0) me_int) ma_nil)))))
theorem ok_p_four_bytes (D : Def0 K mg "four_bytes" s_p_four_bytes P_p_four_bytes) (g : Glb K mg) (d_p_two_bytes : MDef P w K mg base 1 "two_bytes" p_two_bytes) : MDef P w K mg base 2 "four_bytes" p_four_bytes :=
  mdef D sc_p_four_bytes 1 1 rfl rfl fun f cdv A outer s H E hr => (mss_one (ms_ret (me_op o_add (me_call d_p_two_bytes hr (by decide) (ma_cons (me_op o_div (me_var 0) me_int) ma_nil)) (me_call d_p_two_bytes hr (by decide) (ma_cons (me_var 0) ma_nil)))))
theorem ok_p_bytes_ahead_of_sum (D : Def0 K mg "bytes_ahead_of_sum" s_p_bytes_ahead_of_sum P_p_bytes_ahead_of_sum) (g : Glb K mg) (d_p_byte_of_head : MDef P w K mg base 1 "byte_of_head" p_byte_of_head) (d_p_four_bytes : MDef P w K mg base 2 "four_bytes" p_four_bytes) (d_p_two_bytes : MDef P w K mg base 1 "two_bytes" p_two_bytes) : MDef P w K mg base 3 "bytes_ahead_of_sum" p_bytes_ahead_of_sum :=
  mdef D sc_p_bytes_ahead_of_sum 1 4 rfl rfl fun f cdv A outer s H E hr => (mss_cons (ms_set 1 sc_p_bytes_ahead_of_sum.nd (me_op o_add (me_call d_p_two_bytes hr (by decide) (ma_cons (me_ix ix_ok (me_var 0) (me_gint g.c_SOURCE)) ma_nil)) (me_call d_p_two_bytes hr (by decide) (ma_cons (me_ix ix_ok (me_var 0) (me_gint g.c_GOAL)) ma_nil))))
  (mss_cons (ms_set 2 sc_p_bytes_ahead_of_sum.nd (me_op o_add (me_call d_p_four_bytes hr (by decide) (ma_cons (me_ix ix_ok (me_var 0) (me_gint g.c_NUMBER)) ma_nil)) (me_call d_p_four_bytes hr (by decide) (ma_cons (me_ix ix_ok (me_var 0) (me_gint g.c_ANSWER)) ma_nil))))
  (mss_cons (ms_set 3 sc_p_bytes_ahead_of_sum.nd (me_ite (mt_cmp (o_eq hr.units) (me_ix ix_ok (me_var 0) (me_gint g.c_MOST)) me_int) (me_gint g.c_SHORT_HEAD) (me_gint g.c_LONG_HEAD)))
  (mss_one (ms_ret (me_op o_add (me_op o_add (me_op o_add (me_var 1) (me_var 2)) (me_lst (ma_cons (me_call d_p_byte_of_head hr (by decide) (ma_cons (me_var 3) ma_nil)) (ma_cons (me_ix ix_ok (me_var 0) (me_gint g.c_FLAGS)) ma_nil)))) (me_call d_p_two_bytes hr (by decide) (ma_cons (me_ix ix_ok (me_var 0) (me_gint g.c_WINDOW)) ma_nil))))))))
theorem ok_p_bytes_of_most (D : Def0 K mg "bytes_of_most" s_p_bytes_of_most P_p_bytes_of_most) (g : Glb K mg) (d_p_two_bytes : MDef P w K mg base 1 "two_bytes" p_two_bytes) : MDef P w K mg base 2 "bytes_of_most" p_bytes_of_most :=
  mdef D sc_p_bytes_of_most 1 1 rfl rfl fun f cdv A outer s H E hr => (mss_one (ms_ret (me_ite (mt_cmp (o_eq hr.units) (me_var 0) me_int) (me_lst ma_nil) (me_op o_add (me_lst (ma_cons me_int (ma_cons me_int ma_nil))) (me_call d_p_two_bytes hr (by decide) (ma_cons (me_var 0) ma_nil))))))
theorem ok_p_put (D : Def0 K mg "put" s_p_put P_p_put) (g : Glb K mg) (d_p_bytes_ahead_of_sum : MDef P w K mg base 3 "bytes_ahead_of_sum" p_bytes_ahead_of_sum) (d_p_bytes_of_most : MDef P w K mg base 2 "bytes_of_most" p_bytes_of_most) (d_p_sum_of : MDef P w K mg base 2 "sum_of" p_sum_of) (d_p_two_bytes : MDef P w K mg base 1 "two_bytes" p_two_bytes) : MDef P w K mg base 4 "put" p_put :=
  mdef D sc_p_put 1 3 rfl rfl fun f cdv A outer s H E hr => (mss_cons (ms_set 1 sc_p_put.nd (me_call d_p_bytes_ahead_of_sum hr (by decide) (ma_cons (me_var 0) ma_nil)))
  (mss_cons (ms_set 2 sc_p_put.nd (me_op o_add (me_op o_add (me_lst (ma_cons me_int (ma_cons me_int ma_nil))) (me_call d_p_bytes_of_most hr (by decide) (ma_cons (me_ix ix_ok (me_var 0) (me_gint g.c_MOST)) ma_nil))) (me_callTy c_list g.b_list PyProof.Rows.boot_list (ma_cons (me_ix ix_ok (me_var 0) (me_gint g.c_DATA)) ma_nil))))
  (mss_one (ms_ret (me_op o_add (me_op o_add (me_var 1) (me_call d_p_two_bytes hr (by decide) (ma_cons (me_call d_p_sum_of hr (by decide) (ma_cons (me_op o_add (me_op o_add (me_var 1) (me_lst (ma_cons me_int (ma_cons me_int ma_nil)))) (me_var 2)) ma_nil)) ma_nil))) (me_var 2))))))
theorem ok_p_head_of (D : Def0 K mg "head_of" s_p_head_of P_p_head_of) (g : Glb K mg)  : MDef P w K mg base 1 "head_of" p_head_of :=
  mdef D sc_p_head_of 1 1 rfl rfl fun f cdv A outer s H E hr => (mss_one (ms_ret (me_op o_mul (me_op o_div (me_ix ix_ok (me_var 0) me_int) me_int) me_int)))
theorem ok_p_two_at (D : Def0 K mg "two_at" s_p_two_at P_p_two_at) (g : Glb K mg)  : MDef P w K mg base 1 "two_at" p_two_at :=
  mdef D sc_p_two_at 2 2 rfl rfl fun f cdv A outer s H E hr => (mss_one (ms_ret (me_op o_add (me_op o_mul me_int (me_ix ix_ok (me_var 0) (me_var 1))) (me_ix ix_ok (me_var 0) (me_op o_add (me_var 1) me_int)))))
theorem ok_p_is_right_long_head (D : Def0 K mg "is_right_long_head" s_p_is_right_long_head P_p_is_right_long_head) (g : Glb K mg) (d_p_has : MDef P w K mg base 1 "has" p_has) (d_p_two_at : MDef P w K mg base 1 "two_at" p_two_at) : MDef P w K mg base 2 "is_right_long_head" p_is_right_long_head :=
  mdef D sc_p_is_right_long_head 1 1 rfl rfl fun f cdv A outer s H E hr => (mss_one (ms_ret (me_and (me_cmp (o_eq hr.units) (me_call d_p_has hr (by decide) (ma_cons (me_ix ix_ok (me_var 0) me_int) (ma_cons (me_gint g.c_SYN) ma_nil))) me_int) (me_and (me_cmp (o_eq hr.units) (me_ix ix_ok (me_var 0) me_int) me_int) (me_and (me_cmp (o_eq hr.units) (me_ix ix_ok (me_var 0) me_int) me_int) (me_one (me_cmp o_ge (me_call d_p_two_at hr (by decide) (ma_cons (me_var 0) (ma_cons me_int ma_nil))) (me_gint g.c_LEAST_MOST))))))))
theorem ok_p_is_right (D : Def0 K mg "is_right" s_p_is_right P_p_is_right) (g : Glb K mg) (d_p_byte_of_head : MDef P w K mg base 1 "byte_of_head" p_byte_of_head) (d_p_folded : MDef P w K mg base 1 "folded" p_folded) (d_p_head_of : MDef P w K mg base 1 "head_of" p_head_of) (d_p_is_right_long_head : MDef P w K mg base 2 "is_right_long_head" p_is_right_long_head) (d_p_two_at : MDef P w K mg base 1 "two_at" p_two_at) : MDef P w K mg base 3 "is_right" p_is_right :=
  mdef D sc_p_is_right 1 1 rfl rfl fun f cdv A outer s H E hr => (mss_one (ms_ret (me_and (me_cmp o_ge (me_callB c_len g.b_len PySem.boot_len (ma_cons (me_var 0) ma_nil)) (me_gint g.c_SHORT_HEAD)) (me_and (me_cmp o_in (me_ix ix_ok (me_var 0) me_int) (me_tup (ma_cons (me_call d_p_byte_of_head hr (by decide) (ma_cons (me_gint g.c_SHORT_HEAD) ma_nil)) (ma_cons (me_call d_p_byte_of_head hr (by decide) (ma_cons (me_gint g.c_LONG_HEAD) ma_nil)) ma_nil))) (by with_unfolding_all rfl)) (me_and (me_cmp o_le (me_ix ix_ok (me_var 0) me_int) (me_gint g.c_GREATEST_FLAGS)) (me_and (me_chain o_le o_le me_int (me_op o_sub (me_callB c_len g.b_len PySem.boot_len (ma_cons (me_var 0) ma_nil)) (me_call d_p_head_of hr (by decide) (ma_cons (me_var 0) ma_nil))) (me_gint g.c_GREATEST_DATA)) (me_and (me_cmp (o_eq hr.units) (me_call d_p_two_at hr (by decide) (ma_cons (me_var 0) (ma_cons me_int ma_nil))) me_int) (me_and (me_or (me_cmp (o_eq hr.units) (me_call d_p_head_of hr (by decide) (ma_cons (me_var 0) ma_nil)) (me_gint g.c_SHORT_HEAD)) (me_one (me_call d_p_is_right_long_head hr (by decide) (ma_cons (me_var 0) ma_nil)))) (me_one (me_cmp (o_eq hr.units) (me_call d_p_folded hr (by decide) (ma_cons (me_var 0) ma_nil)) (me_gint g.c_RIGHT_SUM)))))))))))
theorem ok_p_four_at (D : Def0 K mg "four_at" s_p_four_at P_p_four_at) (g : Glb K mg) (d_p_two_at : MDef P w K mg base 1 "two_at" p_two_at) : MDef P w K mg base 2 "four_at" p_four_at :=
  mdef D sc_p_four_at 2 2 rfl rfl fun f cdv A outer s H E hr => (mss_one (ms_ret (me_op o_add (me_op o_mul me_int (me_call d_p_two_at hr (by decide) (ma_cons (me_var 0) (ma_cons (me_var 1) ma_nil)))) (me_call d_p_two_at hr (by decide) (ma_cons (me_var 0) (ma_cons (me_op o_add (me_var 1) me_int) ma_nil))))))
theorem ok_p_get (D : Def0 K mg "get" s_p_get P_p_get) (g : Glb K mg) (d_p_four_at : MDef P w K mg base 2 "four_at" p_four_at) (d_p_head_of : MDef P w K mg base 1 "head_of" p_head_of) (d_p_is_right : MDef P w K mg base 3 "is_right" p_is_right) (d_p_two_at : MDef P w K mg base 1 "two_at" p_two_at) : MDef P w K mg base 4 "get" p_get :=
  mdef D sc_p_get 1 5 rfl rfl fun f cdv A outer s H E hr => (mss_cons (ms_if (mt_not (mt_truth (me_call d_p_is_right hr (by decide) (ma_cons (me_var 0) ma_nil)))) (mss_one ms_never) mss_nil)
  (mss_cons (ms_set 1 sc_p_get.nd (me_call d_p_head_of hr (by decide) (ma_cons (me_var 0) ma_nil)))
  (mss_cons (ms_set 2 sc_p_get.nd (me_ite (mt_cmp (o_eq hr.units) (me_var 1) (me_gint g.c_LONG_HEAD)) (me_call d_p_two_at hr (by decide) (ma_cons (me_var 0) (ma_cons me_int ma_nil))) me_int))
  (mss_cons (ms_set 3 sc_p_get.nd (me_tup (ma_cons (me_call d_p_two_at hr (by decide) (ma_cons (me_var 0) (ma_cons me_int ma_nil))) (ma_cons (me_call d_p_two_at hr (by decide) (ma_cons (me_var 0) (ma_cons me_int ma_nil))) ma_nil))))
  (mss_cons (ms_set 4 sc_p_get.nd (me_tup (ma_cons (me_call d_p_four_at hr (by decide) (ma_cons (me_var 0) (ma_cons me_int ma_nil))) (ma_cons (me_call d_p_four_at hr (by decide) (ma_cons (me_var 0) (ma_cons me_int ma_nil))) ma_nil))))
  (mss_one (ms_ret (me_op o_add (me_op o_add (me_var 3) (me_var 4)) (me_tup (ma_cons (me_ix ix_ok (me_var 0) me_int) (ma_cons (me_call d_p_two_at hr (by decide) (ma_cons (me_var 0) (ma_cons me_int ma_nil))) (ma_cons (me_var 2) (ma_cons (me_callTy c_tuple g.b_tuple PyProof.Rows.boot_tuple (ma_cons (me_slice (me_var 0) (mo_some (me_var 1)) mo_none) ma_nil)) ma_nil)))))))))))))
theorem ok_p_reset_for (D : Def0 K mg "reset_for" s_p_reset_for P_p_reset_for) (g : Glb K mg) (d_p_bears : MDef P w K mg base 2 "bears" p_bears) (d_p_length : MDef P w K mg base 2 "length" p_length) (d_p_plus : MDef P w K mg base 1 "plus" p_plus) : MDef P w K mg base 3 "reset_for" p_reset_for :=
  mdef D sc_p_reset_for 1 2 rfl rfl fun f cdv A outer s H E hr => (mss_cons (ms_set 1 sc_p_reset_for.nd (me_tup (ma_cons (me_ix ix_ok (me_var 0) (me_gint g.c_GOAL)) (ma_cons (me_ix ix_ok (me_var 0) (me_gint g.c_SOURCE)) ma_nil))))
  (mss_cons (ms_if (mt_truth (me_call d_p_bears hr (by decide) (ma_cons (me_var 0) (ma_cons (me_gint g.c_ACK) ma_nil)))) (mss_one (ms_ret (me_op o_add (me_var 1) (me_tup (ma_cons (me_ix ix_ok (me_var 0) (me_gint g.c_ANSWER)) (ma_cons me_int (ma_cons (me_gint g.c_RST) (ma_cons me_int (ma_cons me_int (ma_cons (me_tup ma_nil) ma_nil)))))))))) mss_nil)
  (mss_one (ms_ret (me_op o_add (me_var 1) (me_tup (ma_cons me_int (ma_cons (me_call d_p_plus hr (by decide) (ma_cons (me_ix ix_ok (me_var 0) (me_gint g.c_NUMBER)) (ma_cons (me_call d_p_length hr (by decide) (ma_cons (me_var 0) ma_nil)) ma_nil))) (ma_cons (me_op o_add (me_gint g.c_RST) (me_gint g.c_ACK)) (ma_cons me_int (ma_cons me_int (ma_cons (me_tup ma_nil) ma_nil))))))))))))
theorem ok_p_owe_reset_for (D : Def0 K mg "owe_reset_for" s_p_owe_reset_for P_p_owe_reset_for) (g : Glb K mg) (d_p_bears : MDef P w K mg base 2 "bears" p_bears) (d_p_reset_for : MDef P w K mg base 3 "reset_for" p_reset_for) : MDef P w K mg base 4 "owe_reset_for" p_owe_reset_for :=
  mdef D sc_p_owe_reset_for 2 2 rfl rfl fun f cdv A outer s H E hr => (mss_one (ms_if (mt_not (mt_truth (me_call d_p_bears hr (by decide) (ma_cons (me_var 1) (ma_cons (me_gint g.c_RST) ma_nil))))) (mss_one (ms_fld (all1 ⟨g.k_End, g.n_End_owed_reset⟩) (me_var 0) (me_call d_p_reset_for hr (by decide) (ma_cons (me_var 1) ma_nil)))) mss_nil))
theorem ok_p_come_to_closed (D : Def0 K mg "come_to_closed" s_p_come_to_closed P_p_come_to_closed) (g : Glb K mg) (d_p_owe_reset_for : MDef P w K mg base 4 "owe_reset_for" p_owe_reset_for) : MDef P w K mg base 5 "come_to_closed" p_come_to_closed :=
  mdef D sc_p_come_to_closed 2 2 rfl rfl fun f cdv A outer s H E hr => (mss_one (ms_expr (me_call d_p_owe_reset_for hr (by decide) (ma_cons (me_var 0) (ma_cons (me_var 1) ma_nil)))))
theorem ok_p_hear_syn (D : Def0 K mg "hear_syn" s_p_hear_syn P_p_hear_syn) (g : Glb K mg) (d_p_bears : MDef P w K mg base 2 "bears" p_bears) (d_p_plus : MDef P w K mg base 1 "plus" p_plus) : MDef P w K mg base 3 "hear_syn" p_hear_syn :=
  mdef D sc_p_hear_syn 2 2 rfl rfl fun f cdv A outer s H E hr => (mss_cons (ms_fld (all1 ⟨g.k_End, g.n_End_rcv⟩) (me_var 0) (me_call d_p_plus hr (by decide) (ma_cons (me_ix ix_ok (me_var 1) (me_gint g.c_NUMBER)) (ma_cons me_int ma_nil))))
  (mss_cons (ms_fld (all1 ⟨g.k_End, g.n_End_wnd⟩) (me_var 0) (me_ix ix_ok (me_var 1) (me_gint g.c_WINDOW)))
  (mss_cons (ms_fld (all1 ⟨g.k_End, g.n_End_told⟩) (me_var 0) (me_ix ix_ok (me_var 1) (me_gint g.c_NUMBER)))
  (mss_cons (ms_fld (all1 ⟨g.k_End, g.n_End_told_by⟩) (me_var 0) (me_ite (mt_truth (me_call d_p_bears hr (by decide) (ma_cons (me_var 1) (ma_cons (me_gint g.c_ACK) ma_nil)))) (me_ix ix_ok (me_var 1) (me_gint g.c_ANSWER)) me_int))
  (mss_one (ms_if (mt_cmp (o_ne hr.units) (me_ix ix_ok (me_var 1) (me_gint g.c_MOST)) me_int) (mss_one (ms_fld (all1 ⟨g.k_End, g.n_End_most⟩) (me_var 0) (me_ix ix_ok (me_var 1) (me_gint g.c_MOST)))) mss_nil))))))
theorem ok_p_come_to_listen (D : Def0 K mg "come_to_listen" s_p_come_to_listen P_p_come_to_listen) (g : Glb K mg) (d_p_bears : MDef P w K mg base 2 "bears" p_bears) (d_p_hear_syn : MDef P w K mg base 3 "hear_syn" p_hear_syn) (d_p_owe_reset_for : MDef P w K mg base 4 "owe_reset_for" p_owe_reset_for) : MDef P w K mg base 5 "come_to_listen" p_come_to_listen :=
  mdef D sc_p_come_to_listen 2 2 rfl rfl fun f cdv A outer s H E hr => (mss_cons (ms_if (mt_truth (me_call d_p_bears hr (by decide) (ma_cons (me_var 1) (ma_cons (me_gint g.c_RST) ma_nil)))) (mss_one ms_retN) mss_nil)
  (mss_one (ms_if (mt_truth (me_call d_p_bears hr (by decide) (ma_cons (me_var 1) (ma_cons (me_gint g.c_ACK) ma_nil)))) (mss_one (ms_expr (me_call d_p_owe_reset_for hr (by decide) (ma_cons (me_var 0) (ma_cons (me_var 1) ma_nil))))) (mss_one (ms_if (mt_truth (me_call d_p_bears hr (by decide) (ma_cons (me_var 1) (ma_cons (me_gint g.c_SYN) ma_nil)))) (mss_cons (ms_fld (all1 ⟨g.k_End, g.n_End_theirs⟩) (me_var 0) (me_ix ix_ok (me_var 1) (me_gint g.c_SOURCE)))
      (mss_cons (ms_expr (me_call d_p_hear_syn hr (by decide) (ma_cons (me_var 0) (ma_cons (me_var 1) ma_nil))))
      (mss_one (ms_fld (all1 ⟨g.k_End, g.n_End_state⟩) (me_var 0) (me_gstr g.c_SYN_COME))))) mss_nil)))))
theorem ok_p_answers_syn (D : Def0 K mg "answers_syn" s_p_answers_syn P_p_answers_syn) (g : Glb K mg) (d_p_plus : MDef P w K mg base 1 "plus" p_plus) : MDef P w K mg base 2 "answers_syn" p_answers_syn :=
  mdef D sc_p_answers_syn 2 2 rfl rfl fun f cdv A outer s H E hr => (mss_one (ms_ret (me_and (me_cmp (o_ne hr.units) (me_fld (all1 ⟨g.k_End, g.n_End_nxt⟩) (me_var 0)) (me_fld (all1 ⟨g.k_End, g.n_End_first⟩) (me_var 0))) (me_one (me_cmp (o_eq hr.units) (me_ix ix_ok (me_var 1) (me_gint g.c_ANSWER)) (me_call d_p_plus hr (by decide) (ma_cons (me_fld (all1 ⟨g.k_End, g.n_End_first⟩) (me_var 0)) (ma_cons me_int ma_nil))))))))
theorem ok_p_go_on_from_syn_sent (D : Def0 K mg "go_on_from_syn_sent" s_p_go_on_from_syn_sent P_p_go_on_from_syn_sent) (g : Glb K mg) (d_p_bears : MDef P w K mg base 2 "bears" p_bears) (d_p_start_timer : MDef P w K mg base 1 "start_timer" p_start_timer) : MDef P w K mg base 3 "go_on_from_syn_sent" p_go_on_from_syn_sent :=
  mdef D sc_p_go_on_from_syn_sent 3 3 rfl rfl fun f cdv A outer s H E hr => (mss_one (ms_if (mt_truth (me_call d_p_bears hr (by decide) (ma_cons (me_var 1) (ma_cons (me_gint g.c_ACK) ma_nil)))) (mss_cons (ms_fld (all1 ⟨g.k_End, g.n_End_una⟩) (me_var 0) (me_ix ix_ok (me_var 1) (me_gint g.c_ANSWER)))
    (mss_cons (ms_fld (all1 ⟨g.k_End, g.n_End_state⟩) (me_var 0) (me_gstr g.c_OPEN))
    (mss_one (ms_fld (all1 ⟨g.k_End, g.n_End_owes_answer⟩) (me_var 0) me_bl)))) (mss_cons (ms_fld (all1 ⟨g.k_End, g.n_End_state⟩) (me_var 0) (me_gstr g.c_SYN_COME))
    (mss_cons (ms_expr (me_call d_p_start_timer hr (by decide) (ma_cons (me_var 0) (ma_cons (me_var 2) ma_nil))))
    (mss_one (ms_fld (all1 ⟨g.k_End, g.n_End_owes_syn⟩) (me_var 0) me_bl))))))
theorem ok_p_refuse (D : Def0 K mg "refuse" s_p_refuse P_p_refuse) (g : Glb K mg) (d_p_bears : MDef P w K mg base 2 "bears" p_bears) : MDef P w K mg base 3 "refuse" p_refuse :=
  mdef D sc_p_refuse 2 2 rfl rfl fun f cdv A outer s H E hr => (mss_one (ms_if (mt_truth (me_call d_p_bears hr (by decide) (ma_cons (me_var 1) (ma_cons (me_gint g.c_ACK) ma_nil)))) (mss_cons (ms_fld (all1 ⟨g.k_End, g.n_End_state⟩) (me_var 0) (me_gstr g.c_CLOSED))
    (mss_one (ms_fld (all1 ⟨g.k_End, g.n_End_error⟩) (me_var 0) (me_gstr g.c_REFUSED)))) mss_nil))
theorem ok_p_come_to_syn_sent (D : Def0 K mg "come_to_syn_sent" s_p_come_to_syn_sent P_p_come_to_syn_sent) (g : Glb K mg) (d_p_answers_syn : MDef P w K mg base 2 "answers_syn" p_answers_syn) (d_p_bears : MDef P w K mg base 2 "bears" p_bears) (d_p_go_on_from_syn_sent : MDef P w K mg base 3 "go_on_from_syn_sent" p_go_on_from_syn_sent) (d_p_hear_syn : MDef P w K mg base 3 "hear_syn" p_hear_syn) (d_p_owe_reset_for : MDef P w K mg base 4 "owe_reset_for" p_owe_reset_for) (d_p_refuse : MDef P w K mg base 3 "refuse" p_refuse) : MDef P w K mg base 5 "come_to_syn_sent" p_come_to_syn_sent :=
  mdef D sc_p_come_to_syn_sent 3 3 rfl rfl fun f cdv A outer s H E hr => (mss_one (ms_if (MW.mt (mw_and (mt_truth (me_call d_p_bears hr (by decide) (ma_cons (me_var 1) (ma_cons (me_gint g.c_ACK) ma_nil)))) (mw_one_and (mt_not (mt_truth (me_call d_p_answers_syn hr (by decide) (ma_cons (me_var 0) (ma_cons (me_var 1) ma_nil)))))))) (mss_one (ms_expr (me_call d_p_owe_reset_for hr (by decide) (ma_cons (me_var 0) (ma_cons (me_var 1) ma_nil))))) (mss_one (ms_if (mt_truth (me_call d_p_bears hr (by decide) (ma_cons (me_var 1) (ma_cons (me_gint g.c_RST) ma_nil)))) (mss_one (ms_expr (me_call d_p_refuse hr (by decide) (ma_cons (me_var 0) (ma_cons (me_var 1) ma_nil))))) (mss_one (ms_if (mt_truth (me_call d_p_bears hr (by decide) (ma_cons (me_var 1) (ma_cons (me_gint g.c_SYN) ma_nil)))) (mss_cons (ms_expr (me_call d_p_hear_syn hr (by decide) (ma_cons (me_var 0) (ma_cons (me_var 1) ma_nil))))
        (mss_one (ms_expr (me_call d_p_go_on_from_syn_sent hr (by decide) (ma_cons (me_var 0) (ma_cons (me_var 1) (ma_cons (me_var 2) ma_nil))))))) mss_nil))))))
theorem ok_p_come_to_stream (D : Def0 K mg "come_to_stream" s_p_come_to_stream P_p_come_to_stream) (g : Glb K mg)  : MDef P w K mg base 1 "come_to_stream" p_come_to_stream :=
  mdef D sc_p_come_to_stream 3 3 rfl rfl fun f cdv A outer s H E hr => mss_never
theorem ok_p_is_for (D : Def0 K mg "is_for" s_p_is_for P_p_is_for) (g : Glb K mg)  : MDef P w K mg base 1 "is_for" p_is_for :=
  mdef D sc_p_is_for 2 2 rfl rfl fun f cdv A outer s H E hr => (mss_one (ms_ret (me_and (me_cmp (o_eq hr.units) (me_ix ix_ok (me_var 1) (me_gint g.c_GOAL)) (me_fld (all1 ⟨g.k_End, g.n_End_ours⟩) (me_var 0))) (me_one (me_or (me_cmp o_in (me_fld (all1 ⟨g.k_End, g.n_End_state⟩) (me_var 0)) (me_tup (ma_cons (me_gstr g.c_CLOSED) (ma_cons (me_gstr g.c_LISTEN) ma_nil))) (by with_unfolding_all rfl)) (me_one (me_cmp (o_eq hr.units) (me_ix ix_ok (me_var 1) (me_gint g.c_SOURCE)) (me_fld (all1 ⟨g.k_End, g.n_End_theirs⟩) (me_var 0)))))))))
theorem ok_p_arrive (D : Def0 K mg "arrive" s_p_arrive P_p_arrive) (g : Glb K mg) (d_p_come_to_closed : MDef P w K mg base 5 "come_to_closed" p_come_to_closed) (d_p_come_to_listen : MDef P w K mg base 5 "come_to_listen" p_come_to_listen) (d_p_come_to_stream : MDef P w K mg base 1 "come_to_stream" p_come_to_stream) (d_p_come_to_syn_sent : MDef P w K mg base 5 "come_to_syn_sent" p_come_to_syn_sent) (d_p_get : MDef P w K mg base 4 "get" p_get) (d_p_is_for : MDef P w K mg base 1 "is_for" p_is_for) (d_p_is_right : MDef P w K mg base 3 "is_right" p_is_right) : MDef P w K mg base 6 "arrive" p_arrive :=
  mdef D sc_p_arrive 3 4 rfl rfl fun f cdv A outer s H E hr => (mss_cons (ms_if (mt_not (mt_truth (me_call d_p_is_right hr (by decide) (ma_cons (me_var 1) ma_nil)))) (mss_one (ms_ret me_bl)) mss_nil)
  (mss_cons (ms_set 3 sc_p_arrive.nd (me_call d_p_get hr (by decide) (ma_cons (me_var 1) ma_nil)))
  (mss_cons (ms_if (mt_not (mt_truth (me_call d_p_is_for hr (by decide) (ma_cons (me_var 0) (ma_cons (me_var 3) ma_nil))))) (mss_one (ms_ret me_bl)) mss_nil)
  (mss_cons (ms_if (mt_cmp (o_eq hr.units) (me_fld (all1 ⟨g.k_End, g.n_End_state⟩) (me_var 0)) (me_gstr g.c_CLOSED)) (mss_one (ms_expr (me_call d_p_come_to_closed hr (by decide) (ma_cons (me_var 0) (ma_cons (me_var 3) ma_nil))))) (mss_one (ms_if (mt_cmp (o_eq hr.units) (me_fld (all1 ⟨g.k_End, g.n_End_state⟩) (me_var 0)) (me_gstr g.c_LISTEN)) (mss_one (ms_expr (me_call d_p_come_to_listen hr (by decide) (ma_cons (me_var 0) (ma_cons (me_var 3) ma_nil))))) (mss_one (ms_if (mt_cmp (o_eq hr.units) (me_fld (all1 ⟨g.k_End, g.n_End_state⟩) (me_var 0)) (me_gstr g.c_SYN_SENT)) (mss_one (ms_expr (me_call d_p_come_to_syn_sent hr (by decide) (ma_cons (me_var 0) (ma_cons (me_var 3) (ma_cons (me_var 2) ma_nil)))))) (mss_one (ms_expr (me_call d_p_come_to_stream hr (by decide) (ma_cons (me_var 0) (ma_cons (me_var 3) (ma_cons (me_var 2) ma_nil)))))))))))
  (mss_one (ms_ret me_bl))))))
theorem ok_p_opened (D : Def0 K mg "opened" s_p_opened P_p_opened) (g : Glb K mg) (d_p_End_init : MMk P w K mg base 3 "End" p_End_init) : MDef P w K mg base 5 "opened" p_opened :=
  mdef D sc_p_opened 4 4 rfl rfl fun f cdv A outer s H E hr => (mss_one (ms_ret (me_make d_p_End_init hr (by decide) (ma_cons (me_var 0) (ma_cons (me_var 1) (ma_cons (me_var 2) (ma_cons (me_var 3) ma_nil)))))))
theorem ok_p_close (D : Def0 K mg "close" s_p_close P_p_close) (g : Glb K mg)  : MDef P w K mg base 1 "close" p_close :=
  mdef D sc_p_close 1 1 rfl rfl fun f cdv A outer s H E hr => (mss_cons (ms_if (mt_truth (me_fld (all1 ⟨g.k_End, g.n_End_has_closed⟩) (me_var 0))) (mss_one (ms_ret me_bl)) mss_nil)
  (mss_cons (ms_if (mt_cmp o_in (me_fld (all1 ⟨g.k_End, g.n_End_state⟩) (me_var 0)) (me_tup (ma_cons (me_gstr g.c_LISTEN) (ma_cons (me_gstr g.c_SYN_SENT) ma_nil))) (by with_unfolding_all rfl)) (mss_cons (ms_fld (all1 ⟨g.k_End, g.n_End_state⟩) (me_var 0) (me_gstr g.c_CLOSED))
    (mss_one (ms_ret me_bl))) mss_nil)
  (mss_cons (ms_if (mt_cmp o_notin (me_fld (all1 ⟨g.k_End, g.n_End_state⟩) (me_var 0)) (me_tup (ma_cons (me_gstr g.c_SYN_COME) (ma_cons (me_gstr g.c_OPEN) (ma_cons (me_gstr g.c_CLOSE_WAIT) ma_nil)))) (by with_unfolding_all rfl)) (mss_one (ms_ret me_bl)) mss_nil)
  (mss_cons (ms_fld (all1 ⟨g.k_End, g.n_End_has_closed⟩) (me_var 0) me_bl)
  (mss_cons (ms_if (mt_cmp (o_eq hr.units) (me_fld (all1 ⟨g.k_End, g.n_End_state⟩) (me_var 0)) (me_gstr g.c_OPEN)) (mss_one (ms_fld (all1 ⟨g.k_End, g.n_End_state⟩) (me_var 0) (me_gstr g.c_WAIT_ONE))) (mss_one (ms_if (mt_cmp (o_eq hr.units) (me_fld (all1 ⟨g.k_End, g.n_End_state⟩) (me_var 0)) (me_gstr g.c_CLOSE_WAIT)) (mss_one (ms_fld (all1 ⟨g.k_End, g.n_End_state⟩) (me_var 0) (me_gstr g.c_LAST_ACK))) mss_nil)))
  (mss_one (ms_ret me_bl)))))))
theorem ok_p_abort (D : Def0 K mg "abort" s_p_abort P_p_abort) (g : Glb K mg)  : MDef P w K mg base 1 "abort" p_abort :=
  mdef D sc_p_abort 1 1 rfl rfl fun f cdv A outer s H E hr => (mss_cons (ms_if (mt_cmp (o_eq hr.units) (me_fld (all1 ⟨g.k_End, g.n_End_state⟩) (me_var 0)) (me_gstr g.c_CLOSED)) (mss_one (ms_ret me_bl)) mss_nil)
  (mss_cons (ms_if (mt_cmp o_notin (me_fld (all1 ⟨g.k_End, g.n_End_state⟩) (me_var 0)) (me_tup (ma_cons (me_gstr g.c_LISTEN) (ma_cons (me_gstr g.c_SYN_SENT) (ma_cons (me_gstr g.c_TIME_WAIT) ma_nil)))) (by with_unfolding_all rfl)) (mss_one (ms_fld (all1 ⟨g.k_End, g.n_End_owed_reset⟩) (me_var 0) (me_tup (ma_cons (me_fld (all1 ⟨g.k_End, g.n_End_ours⟩) (me_var 0)) (ma_cons (me_fld (all1 ⟨g.k_End, g.n_End_theirs⟩) (me_var 0)) (ma_cons (me_fld (all1 ⟨g.k_End, g.n_End_nxt⟩) (me_var 0)) (ma_cons me_int (ma_cons (me_gint g.c_RST) (ma_cons me_int (ma_cons me_int (ma_cons (me_tup ma_nil) ma_nil))))))))))) mss_nil)
  (mss_cons (ms_fld (all1 ⟨g.k_End, g.n_End_state⟩) (me_var 0) (me_gstr g.c_CLOSED))
  (mss_one (ms_ret me_bl)))))
theorem ok_p_most_at_once (D : Def0 K mg "most_at_once" s_p_most_at_once P_p_most_at_once) (g : Glb K mg)  : MDef P w K mg base 1 "most_at_once" p_most_at_once :=
  mdef D sc_p_most_at_once 1 1 rfl rfl fun f cdv A outer s H E hr => (mss_one (ms_ret (me_callB c_min g.b_min PyProof.Rows.boot_min (ma_cons (me_fld (all1 ⟨g.k_End, g.n_End_most⟩) (me_var 0)) (ma_cons (me_gint g.c_GREATEST_DATA) ma_nil)))))
theorem ok_p_paid_syn (D : Def0 K mg "paid_syn" s_p_paid_syn P_p_paid_syn) (g : Glb K mg)  : MDef P w K mg base 1 "paid_syn" p_paid_syn :=
  mdef D sc_p_paid_syn 1 1 rfl rfl fun f cdv A outer s H E hr => (mss_cons (ms_fld (all1 ⟨g.k_End, g.n_End_owes_syn⟩) (me_var 0) me_bl)
  (mss_cons (ms_if (mt_cmp (o_eq hr.units) (me_fld (all1 ⟨g.k_End, g.n_End_state⟩) (me_var 0)) (me_gstr g.c_SYN_SENT)) (mss_one (ms_ret (me_tup (ma_cons (me_fld (all1 ⟨g.k_End, g.n_End_ours⟩) (me_var 0)) (ma_cons (me_fld (all1 ⟨g.k_End, g.n_End_theirs⟩) (me_var 0)) (ma_cons (me_fld (all1 ⟨g.k_End, g.n_End_first⟩) (me_var 0)) (ma_cons me_int (ma_cons (me_gint g.c_SYN) (ma_cons (me_gint g.c_ROOM) (ma_cons (me_gint g.c_GREATEST_DATA) (ma_cons (me_tup ma_nil) ma_nil))))))))))) mss_nil)
  (mss_one (ms_ret (me_tup (ma_cons (me_fld (all1 ⟨g.k_End, g.n_End_ours⟩) (me_var 0)) (ma_cons (me_fld (all1 ⟨g.k_End, g.n_End_theirs⟩) (me_var 0)) (ma_cons (me_fld (all1 ⟨g.k_End, g.n_End_first⟩) (me_var 0)) (ma_cons (me_fld (all1 ⟨g.k_End, g.n_End_rcv⟩) (me_var 0)) (ma_cons (me_op o_add (me_gint g.c_SYN) (me_gint g.c_ACK)) (ma_cons (me_gint g.c_ROOM) (ma_cons (me_gint g.c_GREATEST_DATA) (ma_cons (me_tup ma_nil) ma_nil)))))))))))))
theorem ok_p_segment_of (D : Def0 K mg "segment_of" s_p_segment_of P_p_segment_of) (g : Glb K mg) (d_p_our_window : MDef P w K mg base 2 "our_window" p_our_window) : MDef P w K mg base 3 "segment_of" p_segment_of :=
  mdef D sc_p_segment_of 4 4 rfl rfl fun f cdv A outer s H E hr => (mss_one (ms_ret (me_tup (ma_cons (me_fld (all1 ⟨g.k_End, g.n_End_ours⟩) (me_var 0)) (ma_cons (me_fld (all1 ⟨g.k_End, g.n_End_theirs⟩) (me_var 0)) (ma_cons (me_var 1) (ma_cons (me_fld (all1 ⟨g.k_End, g.n_End_rcv⟩) (me_var 0)) (ma_cons (me_op o_add (me_var 2) (me_gint g.c_ACK)) (ma_cons (me_call d_p_our_window hr (by decide) (ma_cons (me_var 0) ma_nil)) (ma_cons me_int (ma_cons (me_callTy c_tuple g.b_tuple PyProof.Rows.boot_tuple (ma_cons (me_var 3) ma_nil)) ma_nil)))))))))))
theorem ok_p_again (D : Def0 K mg "again" s_p_again P_p_again) (g : Glb K mg) (d_p_most_at_once : MDef P w K mg base 1 "most_at_once" p_most_at_once) (d_p_offset : MDef P w K mg base 1 "offset" p_offset) (d_p_paid_syn : MDef P w K mg base 1 "paid_syn" p_paid_syn) (d_p_segment_of : MDef P w K mg base 3 "segment_of" p_segment_of) : MDef P w K mg base 4 "again" p_again :=
  mdef D sc_p_again 2 3 rfl rfl fun f cdv A outer s H E hr => (mss_cons (ms_if (mt_cmp (o_eq hr.units) (me_fld (all1 ⟨g.k_End, g.n_End_tries⟩) (me_var 0)) (me_gint g.c_MOST_TRIES)) (mss_cons (ms_fld (all1 ⟨g.k_End, g.n_End_state⟩) (me_var 0) (me_gstr g.c_CLOSED))
    (mss_cons (ms_fld (all1 ⟨g.k_End, g.n_End_error⟩) (me_var 0) (me_gstr g.c_TIME))
    (mss_one (ms_ret me_non)))) mss_nil)
  (mss_cons (ms_fld (all1 ⟨g.k_End, g.n_End_tries⟩) (me_var 0) (me_op o_add (me_fld (all1 ⟨g.k_End, g.n_End_tries⟩) (me_var 0)) me_int))
  (mss_cons (ms_fld (all1 ⟨g.k_End, g.n_End_wait⟩) (me_var 0) (me_callB c_min g.b_min PyProof.Rows.boot_min (ma_cons (me_op o_mul me_int (me_fld (all1 ⟨g.k_End, g.n_End_wait⟩) (me_var 0))) (ma_cons (me_gint g.c_LONGEST_WAIT) ma_nil))))
  (mss_cons (ms_fld (all1 ⟨g.k_End, g.n_End_since⟩) (me_var 0) (me_var 1))
  (mss_cons (ms_if (mt_cmp o_in (me_fld (all1 ⟨g.k_End, g.n_End_state⟩) (me_var 0)) (me_tup (ma_cons (me_gstr g.c_SYN_SENT) (ma_cons (me_gstr g.c_SYN_COME) ma_nil))) (by with_unfolding_all rfl)) (mss_one (ms_ret (me_call d_p_paid_syn hr (by decide) (ma_cons (me_var 0) ma_nil)))) mss_nil)
  (mss_cons (ms_set 2 sc_p_again.nd (me_slice (me_fld (all1 ⟨g.k_Pile, g.n_Pile_row⟩) (me_fld (all1 ⟨g.k_End, g.n_End_written⟩) (me_var 0))) mo_none (mo_some (me_callB c_min g.b_min PyProof.Rows.boot_min (ma_cons (me_call d_p_offset hr (by decide) (ma_cons (me_fld (all1 ⟨g.k_End, g.n_End_nxt⟩) (me_var 0)) (ma_cons (me_fld (all1 ⟨g.k_End, g.n_End_una⟩) (me_var 0)) ma_nil))) (ma_cons (me_call d_p_most_at_once hr (by decide) (ma_cons (me_var 0) ma_nil)) ma_nil))))))
  (mss_one (ms_ret (me_call d_p_segment_of hr (by decide) (ma_cons (me_var 0) (ma_cons (me_fld (all1 ⟨g.k_End, g.n_End_una⟩) (me_var 0)) (ma_cons (me_ite (mt_cmp o_gt (me_callB c_len g.b_len PySem.boot_len (ma_cons (me_var 2) ma_nil)) me_int) me_int (me_gint g.c_FIN)) (ma_cons (me_var 2) ma_nil)))))))))))))
theorem ok_p_going_as_answer (D : Def0 K mg "going_as_answer" s_p_going_as_answer P_p_going_as_answer) (g : Glb K mg) (d_p_segment_of : MDef P w K mg base 3 "segment_of" p_segment_of) : MDef P w K mg base 4 "going_as_answer" p_going_as_answer :=
  mdef D sc_p_going_as_answer 1 1 rfl rfl fun f cdv A outer s H E hr => (mss_cons (ms_if (mt_not (mt_truth (me_fld (all1 ⟨g.k_End, g.n_End_owes_answer⟩) (me_var 0)))) (mss_one (ms_ret me_non)) mss_nil)
  (mss_cons (ms_fld (all1 ⟨g.k_End, g.n_End_owes_answer⟩) (me_var 0) me_bl)
  (mss_one (ms_ret (me_call d_p_segment_of hr (by decide) (ma_cons (me_var 0) (ma_cons (me_fld (all1 ⟨g.k_End, g.n_End_nxt⟩) (me_var 0)) (ma_cons me_int (ma_cons (me_lst ma_nil) ma_nil)))))))))
theorem ok_p_unsent (D : Def0 K mg "unsent" s_p_unsent P_p_unsent) (g : Glb K mg) (d_p_offset : MDef P w K mg base 1 "offset" p_offset) : MDef P w K mg base 2 "unsent" p_unsent :=
  mdef D sc_p_unsent 1 1 rfl rfl fun f cdv A outer s H E hr => (mss_one (ms_ret (me_call d_p_offset hr (by decide) (ma_cons (me_fld (all1 ⟨g.k_End, g.n_End_behind⟩) (me_var 0)) (ma_cons (me_fld (all1 ⟨g.k_End, g.n_End_nxt⟩) (me_var 0)) ma_nil)))))
theorem ok_p_has_new_data (D : Def0 K mg "has_new_data" s_p_has_new_data P_p_has_new_data) (g : Glb K mg) (d_p_unsent : MDef P w K mg base 2 "unsent" p_unsent) : MDef P w K mg base 3 "has_new_data" p_has_new_data :=
  mdef D sc_p_has_new_data 1 1 rfl rfl fun f cdv A outer s H E hr => (mss_one (ms_ret (me_and (me_cmp o_in (me_fld (all1 ⟨g.k_End, g.n_End_state⟩) (me_var 0)) (me_tup (ma_cons (me_gstr g.c_OPEN) (ma_cons (me_gstr g.c_WAIT_ONE) (ma_cons (me_gstr g.c_CLOSE_WAIT) (ma_cons (me_gstr g.c_CLOSING) (ma_cons (me_gstr g.c_LAST_ACK) ma_nil)))))) (by with_unfolding_all rfl)) (me_one (me_cmp o_gt (me_call d_p_unsent hr (by decide) (ma_cons (me_var 0) ma_nil)) me_int)))))
theorem ok_p_has_new_fin (D : Def0 K mg "has_new_fin" s_p_has_new_fin P_p_has_new_fin) (g : Glb K mg) (d_p_unsent : MDef P w K mg base 2 "unsent" p_unsent) : MDef P w K mg base 3 "has_new_fin" p_has_new_fin :=
  mdef D sc_p_has_new_fin 1 1 rfl rfl fun f cdv A outer s H E hr => (mss_one (ms_ret (me_and (me_cmp o_in (me_fld (all1 ⟨g.k_End, g.n_End_state⟩) (me_var 0)) (me_tup (ma_cons (me_gstr g.c_WAIT_ONE) (ma_cons (me_gstr g.c_CLOSING) (ma_cons (me_gstr g.c_LAST_ACK) ma_nil)))) (by with_unfolding_all rfl)) (me_one (me_cmp (o_eq hr.units) (me_call d_p_unsent hr (by decide) (ma_cons (me_var 0) ma_nil)) me_int)))))
theorem ok_p_has_more (D : Def0 K mg "has_more" s_p_has_more P_p_has_more) (g : Glb K mg) (d_p_has_new_data : MDef P w K mg base 3 "has_new_data" p_has_new_data) (d_p_has_new_fin : MDef P w K mg base 3 "has_new_fin" p_has_new_fin) : MDef P w K mg base 4 "has_more" p_has_more :=
  mdef D sc_p_has_more 1 1 rfl rfl fun f cdv A outer s H E hr => (mss_one (ms_ret (me_or (me_call d_p_has_new_data hr (by decide) (ma_cons (me_var 0) ma_nil)) (me_one (me_call d_p_has_new_fin hr (by decide) (ma_cons (me_var 0) ma_nil))))))
theorem ok_p_new_data (D : Def0 K mg "new_data" s_p_new_data P_p_new_data) (g : Glb K mg) (d_p_most_at_once : MDef P w K mg base 1 "most_at_once" p_most_at_once) (d_p_offset : MDef P w K mg base 1 "offset" p_offset) (d_p_plus : MDef P w K mg base 1 "plus" p_plus) (d_p_segment_of : MDef P w K mg base 3 "segment_of" p_segment_of) (d_p_unsent : MDef P w K mg base 2 "unsent" p_unsent) : MDef P w K mg base 4 "new_data" p_new_data :=
  mdef D sc_p_new_data 2 5 rfl rfl fun f cdv A outer s H E hr => (mss_cons (ms_set 2 sc_p_new_data.nd (me_fld (all1 ⟨g.k_End, g.n_End_nxt⟩) (me_var 0)))
  (mss_cons (ms_set 3 sc_p_new_data.nd (me_callB c_min g.b_min PyProof.Rows.boot_min (ma_cons (me_call d_p_most_at_once hr (by decide) (ma_cons (me_var 0) ma_nil)) (ma_cons (me_call d_p_unsent hr (by decide) (ma_cons (me_var 0) ma_nil)) (ma_cons (me_var 1) ma_nil)))))
  (mss_cons (ms_set 4 sc_p_new_data.nd (me_call d_p_offset hr (by decide) (ma_cons (me_var 2) (ma_cons (me_fld (all1 ⟨g.k_End, g.n_End_una⟩) (me_var 0)) ma_nil))))
  (mss_cons (ms_fld (all1 ⟨g.k_End, g.n_End_nxt⟩) (me_var 0) (me_call d_p_plus hr (by decide) (ma_cons (me_var 2) (ma_cons (me_var 3) ma_nil))))
  (mss_one (ms_ret (me_call d_p_segment_of hr (by decide) (ma_cons (me_var 0) (ma_cons (me_var 2) (ma_cons (me_ite (mt_cmp (o_eq hr.units) (me_call d_p_unsent hr (by decide) (ma_cons (me_var 0) ma_nil)) me_int) (me_gint g.c_PSH) me_int) (ma_cons (me_slice (me_fld (all1 ⟨g.k_Pile, g.n_Pile_row⟩) (me_fld (all1 ⟨g.k_End, g.n_End_written⟩) (me_var 0))) (mo_some (me_var 4)) (mo_some (me_op o_add (me_var 4) (me_var 3)))) ma_nil)))))))))))
theorem ok_p_new_fin (D : Def0 K mg "new_fin" s_p_new_fin P_p_new_fin) (g : Glb K mg) (d_p_plus : MDef P w K mg base 1 "plus" p_plus) (d_p_segment_of : MDef P w K mg base 3 "segment_of" p_segment_of) : MDef P w K mg base 4 "new_fin" p_new_fin :=
  mdef D sc_p_new_fin 1 2 rfl rfl fun f cdv A outer s H E hr => (mss_cons (ms_set 1 sc_p_new_fin.nd (me_fld (all1 ⟨g.k_End, g.n_End_nxt⟩) (me_var 0)))
  (mss_cons (ms_fld (all1 ⟨g.k_End, g.n_End_nxt⟩) (me_var 0) (me_call d_p_plus hr (by decide) (ma_cons (me_var 1) (ma_cons me_int ma_nil))))
  (mss_one (ms_ret (me_call d_p_segment_of hr (by decide) (ma_cons (me_var 0) (ma_cons (me_var 1) (ma_cons (me_gint g.c_FIN) (ma_cons (me_lst ma_nil) ma_nil)))))))))
theorem ok_p_new_piece (D : Def0 K mg "new_piece" s_p_new_piece P_p_new_piece) (g : Glb K mg) (d_p_has_new_data : MDef P w K mg base 3 "has_new_data" p_has_new_data) (d_p_new_data : MDef P w K mg base 4 "new_data" p_new_data) (d_p_new_fin : MDef P w K mg base 4 "new_fin" p_new_fin) : MDef P w K mg base 5 "new_piece" p_new_piece :=
  mdef D sc_p_new_piece 2 2 rfl rfl fun f cdv A outer s H E hr => (mss_cons (ms_fld (all1 ⟨g.k_End, g.n_End_probes⟩) (me_var 0) me_bl)
  (mss_one (ms_ret (me_ite (mt_truth (me_call d_p_has_new_data hr (by decide) (ma_cons (me_var 0) ma_nil))) (me_call d_p_new_data hr (by decide) (ma_cons (me_var 0) (ma_cons (me_var 1) ma_nil))) (me_call d_p_new_fin hr (by decide) (ma_cons (me_var 0) ma_nil))))))
theorem ok_p_new_syn (D : Def0 K mg "new_syn" s_p_new_syn P_p_new_syn) (g : Glb K mg) (d_p_paid_syn : MDef P w K mg base 1 "paid_syn" p_paid_syn) (d_p_plus : MDef P w K mg base 1 "plus" p_plus) (d_p_start_timer : MDef P w K mg base 1 "start_timer" p_start_timer) : MDef P w K mg base 2 "new_syn" p_new_syn :=
  mdef D sc_p_new_syn 2 2 rfl rfl fun f cdv A outer s H E hr => (mss_cons (ms_if (mt_cmp (o_eq hr.units) (me_fld (all1 ⟨g.k_End, g.n_End_nxt⟩) (me_var 0)) (me_fld (all1 ⟨g.k_End, g.n_End_una⟩) (me_var 0))) (mss_one (ms_expr (me_call d_p_start_timer hr (by decide) (ma_cons (me_var 0) (ma_cons (me_var 1) ma_nil))))) mss_nil)
  (mss_cons (ms_fld (all1 ⟨g.k_End, g.n_End_nxt⟩) (me_var 0) (me_call d_p_plus hr (by decide) (ma_cons (me_fld (all1 ⟨g.k_End, g.n_End_first⟩) (me_var 0)) (ma_cons me_int ma_nil))))
  (mss_one (ms_ret (me_call d_p_paid_syn hr (by decide) (ma_cons (me_var 0) ma_nil))))))
theorem ok_p_going_as_new (D : Def0 K mg "going_as_new" s_p_going_as_new P_p_going_as_new) (g : Glb K mg) (d_p_has_more : MDef P w K mg base 4 "has_more" p_has_more) (d_p_new_piece : MDef P w K mg base 5 "new_piece" p_new_piece) (d_p_new_syn : MDef P w K mg base 2 "new_syn" p_new_syn) (d_p_offset : MDef P w K mg base 1 "offset" p_offset) (d_p_start_timer : MDef P w K mg base 1 "start_timer" p_start_timer) : MDef P w K mg base 6 "going_as_new" p_going_as_new :=
  mdef D sc_p_going_as_new 2 3 rfl rfl fun f cdv A outer s H E hr => (mss_cons (ms_if (mt_cmp o_in (me_fld (all1 ⟨g.k_End, g.n_End_state⟩) (me_var 0)) (me_tup (ma_cons (me_gstr g.c_SYN_SENT) (ma_cons (me_gstr g.c_SYN_COME) ma_nil))) (by with_unfolding_all rfl)) (mss_one (ms_ret (me_ite (MW.mt (mw_or (mt_cmp (o_eq hr.units) (me_fld (all1 ⟨g.k_End, g.n_End_nxt⟩) (me_var 0)) (me_fld (all1 ⟨g.k_End, g.n_End_first⟩) (me_var 0))) (mw_one_or (mt_truth (me_fld (all1 ⟨g.k_End, g.n_End_owes_syn⟩) (me_var 0)))))) (me_call d_p_new_syn hr (by decide) (ma_cons (me_var 0) (ma_cons (me_var 1) ma_nil))) me_non))) mss_nil)
  (mss_cons (ms_set 2 sc_p_going_as_new.nd (me_op o_sub (me_fld (all1 ⟨g.k_End, g.n_End_wnd⟩) (me_var 0)) (me_call d_p_offset hr (by decide) (ma_cons (me_fld (all1 ⟨g.k_End, g.n_End_nxt⟩) (me_var 0)) (ma_cons (me_fld (all1 ⟨g.k_End, g.n_End_una⟩) (me_var 0)) ma_nil)))))
  (mss_cons (ms_if (MW.mt (mw_or (mt_cmp o_le (me_var 2) me_int) (mw_one_or (mt_not (mt_truth (me_call d_p_has_more hr (by decide) (ma_cons (me_var 0) ma_nil))))))) (mss_one (ms_ret me_non)) mss_nil)
  (mss_cons (ms_if (mt_cmp (o_eq hr.units) (me_fld (all1 ⟨g.k_End, g.n_End_nxt⟩) (me_var 0)) (me_fld (all1 ⟨g.k_End, g.n_End_una⟩) (me_var 0))) (mss_one (ms_expr (me_call d_p_start_timer hr (by decide) (ma_cons (me_var 0) (ma_cons (me_var 1) ma_nil))))) mss_nil)
  (mss_cons (ms_fld (all1 ⟨g.k_End, g.n_End_owes_answer⟩) (me_var 0) me_bl)
  (mss_one (ms_ret (me_call d_p_new_piece hr (by decide) (ma_cons (me_var 0) (ma_cons (me_var 2) ma_nil))))))))))
theorem ok_p_is_due (D : Def0 K mg "is_due" s_p_is_due P_p_is_due) (g : Glb K mg)  : MDef P w K mg base 1 "is_due" p_is_due :=
  mdef D sc_p_is_due 2 2 rfl rfl fun f cdv A outer s H E hr => (mss_one (ms_ret (me_cmp o_ge (me_op o_sub (me_var 1) (me_fld (all1 ⟨g.k_End, g.n_End_since⟩) (me_var 0))) (me_fld (all1 ⟨g.k_End, g.n_End_wait⟩) (me_var 0)))))
theorem ok_p_going_as_probe (D : Def0 K mg "going_as_probe" s_p_going_as_probe P_p_going_as_probe) (g : Glb K mg) (d_p_has_more : MDef P w K mg base 4 "has_more" p_has_more) (d_p_is_due : MDef P w K mg base 1 "is_due" p_is_due) (d_p_new_piece : MDef P w K mg base 5 "new_piece" p_new_piece) (d_p_start_timer : MDef P w K mg base 1 "start_timer" p_start_timer) : MDef P w K mg base 6 "going_as_probe" p_going_as_probe :=
  mdef D sc_p_going_as_probe 2 2 rfl rfl fun f cdv A outer s H E hr => (mss_cons (ms_if (MW.mt (mw_or (mt_cmp (o_ne hr.units) (me_fld (all1 ⟨g.k_End, g.n_End_nxt⟩) (me_var 0)) (me_fld (all1 ⟨g.k_End, g.n_End_una⟩) (me_var 0))) (mw_or (mt_cmp (o_ne hr.units) (me_fld (all1 ⟨g.k_End, g.n_End_wnd⟩) (me_var 0)) me_int) (mw_one_or (mt_not (mt_truth (me_call d_p_has_more hr (by decide) (ma_cons (me_var 0) ma_nil)))))))) (mss_cons (ms_fld (all1 ⟨g.k_End, g.n_End_probes⟩) (me_var 0) me_bl)
    (mss_one (ms_ret me_non))) mss_nil)
  (mss_cons (ms_if (mt_not (mt_truth (me_fld (all1 ⟨g.k_End, g.n_End_probes⟩) (me_var 0)))) (mss_cons (ms_fld (all1 ⟨g.k_End, g.n_End_probes⟩) (me_var 0) me_bl)
    (mss_one (ms_expr (me_call d_p_start_timer hr (by decide) (ma_cons (me_var 0) (ma_cons (me_var 1) ma_nil)))))) mss_nil)
  (mss_cons (ms_if (mt_not (mt_truth (me_call d_p_is_due hr (by decide) (ma_cons (me_var 0) (ma_cons (me_var 1) ma_nil))))) (mss_one (ms_ret me_non)) mss_nil)
  (mss_cons (ms_fld (all1 ⟨g.k_End, g.n_End_since⟩) (me_var 0) (me_var 1))
  (mss_one (ms_ret (me_call d_p_new_piece hr (by decide) (ma_cons (me_var 0) (ma_cons me_int ma_nil)))))))))
theorem ok_p_paid_reset (D : Def0 K mg "paid_reset" s_p_paid_reset P_p_paid_reset) (g : Glb K mg)  : MDef P w K mg base 1 "paid_reset" p_paid_reset :=
  mdef D sc_p_paid_reset 1 2 rfl rfl fun f cdv A outer s H E hr => (mss_cons (ms_set 1 sc_p_paid_reset.nd (me_fld (all1 ⟨g.k_End, g.n_End_owed_reset⟩) (me_var 0)))
  (mss_cons (ms_fld (all1 ⟨g.k_End, g.n_End_owed_reset⟩) (me_var 0) me_non)
  (mss_one (ms_ret (me_var 1)))))
theorem ok_p_going (D : Def0 K mg "going" s_p_going P_p_going) (g : Glb K mg) (d_p_again : MDef P w K mg base 4 "again" p_again) (d_p_going_as_answer : MDef P w K mg base 4 "going_as_answer" p_going_as_answer) (d_p_going_as_new : MDef P w K mg base 6 "going_as_new" p_going_as_new) (d_p_going_as_probe : MDef P w K mg base 6 "going_as_probe" p_going_as_probe) (d_p_is_due : MDef P w K mg base 1 "is_due" p_is_due) (d_p_paid_reset : MDef P w K mg base 1 "paid_reset" p_paid_reset) : MDef P w K mg base 7 "going" p_going :=
  mdef D sc_p_going 2 3 rfl rfl fun f cdv A outer s H E hr => (mss_cons (ms_if (mt_cmp o_isnot (me_fld (all1 ⟨g.k_End, g.n_End_owed_reset⟩) (me_var 0)) me_non) (mss_one (ms_ret (me_call d_p_paid_reset hr (by decide) (ma_cons (me_var 0) ma_nil)))) mss_nil)
  (mss_cons (ms_if (MW.mt (mw_and (mt_cmp (o_eq hr.units) (me_fld (all1 ⟨g.k_End, g.n_End_state⟩) (me_var 0)) (me_gstr g.c_TIME_WAIT)) (mw_one_and (mt_cmp o_ge (me_op o_sub (me_var 1) (me_fld (all1 ⟨g.k_End, g.n_End_since⟩) (me_var 0))) (me_gint g.c_LAST_WAIT))))) (mss_one (ms_fld (all1 ⟨g.k_End, g.n_End_state⟩) (me_var 0) (me_gstr g.c_CLOSED))) mss_nil)
  (mss_cons (ms_if (mt_cmp o_in (me_fld (all1 ⟨g.k_End, g.n_End_state⟩) (me_var 0)) (me_tup (ma_cons (me_gstr g.c_CLOSED) (ma_cons (me_gstr g.c_LISTEN) ma_nil))) (by with_unfolding_all rfl)) (mss_one (ms_ret me_non)) mss_nil)
  (mss_cons (ms_if (MW.mt (mw_and (mt_cmp (o_ne hr.units) (me_fld (all1 ⟨g.k_End, g.n_End_nxt⟩) (me_var 0)) (me_fld (all1 ⟨g.k_End, g.n_End_una⟩) (me_var 0))) (mw_one_and (mt_truth (me_call d_p_is_due hr (by decide) (ma_cons (me_var 0) (ma_cons (me_var 1) ma_nil))))))) (mss_one (ms_ret (me_call d_p_again hr (by decide) (ma_cons (me_var 0) (ma_cons (me_var 1) ma_nil))))) mss_nil)
  (mss_cons (ms_set 2 sc_p_going.nd (me_call d_p_going_as_new hr (by decide) (ma_cons (me_var 0) (ma_cons (me_var 1) ma_nil))))
  (mss_cons (ms_if (mt_cmp o_is (me_var 2) me_non) (mss_one (ms_set 2 sc_p_going.nd (me_call d_p_going_as_probe hr (by decide) (ma_cons (me_var 0) (ma_cons (me_var 1) ma_nil))))) mss_nil)
  (mss_cons (ms_if (mt_cmp o_is (me_var 2) me_non) (mss_one (ms_set 2 sc_p_going.nd (me_call d_p_going_as_answer hr (by decide) (ma_cons (me_var 0) ma_nil)))) mss_nil)
  (mss_one (ms_ret (me_var 2))))))))))
theorem ok_p_send (D : Def0 K mg "send" s_p_send P_p_send) (g : Glb K mg) (d_p_going : MDef P w K mg base 7 "going" p_going) (d_p_put : MDef P w K mg base 4 "put" p_put) : MDef P w K mg base 8 "send" p_send :=
  mdef D sc_p_send 2 3 rfl rfl fun f cdv A outer s H E hr => (mss_cons (ms_set 2 sc_p_send.nd (me_call d_p_going hr (by decide) (ma_cons (me_var 0) (ma_cons (me_var 1) ma_nil))))
  (mss_one (ms_ret (me_ite (mt_cmp o_is (me_var 2) me_non) (me_lst ma_nil) (me_call d_p_put hr (by decide) (ma_cons (me_var 2) ma_nil))))))
theorem ok_l_cell (D : Def0 K mg "_law_cell" s_l_cell P_l_cell) (g : Glb K mg)  : MDef P w K mg base 1 "_law_cell" l_cell :=
  mdef D sc_l_cell 2 2 rfl rfl fun f cdv A outer s H E hr => (mss_cons (ms_if (mt_truth (me_var 0)) (mss_one (ms_ret (me_ix ix_ok (me_var 0) (me_op o_mod (me_var 1) (me_callB c_len g.b_len PySem.boot_len (ma_cons (me_var 0) ma_nil)))))) mss_nil)
  (mss_one (ms_ret me_int)))
theorem ok_l_mix (D : Def0 K mg "_law_mix" s_l_mix P_l_mix) (g : Glb K mg) (d_l_cell : MDef P w K mg base 1 "_law_cell" l_cell) : MDef P w K mg base 2 "_law_mix" l_mix :=
  mdef D sc_l_mix 2 3 rfl rfl fun f cdv A outer s H E hr => (mss_cons (ms_set 2 sc_l_mix.nd (me_op o_mod (me_op o_add (me_call d_l_cell hr (by decide) (ma_cons (me_var 0) (ma_cons (me_var 1) ma_nil))) (me_op o_mul me_int (me_op o_add (me_var 1) me_int))) me_int))
  (mss_cons (ms_set 2 sc_l_mix.nd (me_op o_mod (me_op o_mul (me_var 2) me_int) me_int))
  (mss_one (ms_ret (me_op o_mod (me_op o_add (me_op o_mul (me_op o_div (me_var 2) me_int) me_int) (me_var 2)) me_int)))))
theorem ok_l_two (D : Def0 K mg "_law_two" s_l_two P_l_two) (g : Glb K mg)  : MDef P w K mg base 1 "_law_two" l_two :=
  mdef D sc_l_two 1 1 rfl rfl fun f cdv A outer s H E hr => (mss_one (ms_ret (me_lst (ma_cons (me_op o_div (me_var 0) me_int) (ma_cons (me_op o_mod (me_var 0) me_int) ma_nil)))))
theorem ok_l_folded (D : Def0 K mg "_law_folded" s_l_folded P_l_folded) (g : Glb K mg)  : MDef P w K mg base 1 "_law_folded" l_folded :=
  mdef D sc_l_folded 1 3 rfl rfl fun f cdv A outer s H E hr => (mss_cons (ms_set 1 sc_l_folded.nd me_int)
  (mss_cons (ms_for PassesOwn.never (mi_range1 g.b_range (ma_cons (me_callB c_len g.b_len PySem.boot_len (ma_cons (me_var 0) ma_nil)) ma_nil)) (mg_name 2 sc_l_folded.nd) (mss_one (ms_set 1 sc_l_folded.nd (me_op o_add (me_var 1) (me_op o_mul (me_ix ix_ok (me_var 0) (me_var 2)) (me_ix ix_ok (me_lst (ma_cons me_int (ma_cons me_int ma_nil))) (me_op o_mod (me_var 2) me_int)))))))
  (mss_cons (ms_while 200 PassesOwn.never (mt_cmp o_gt (me_var 1) me_int) (mss_one (ms_set 1 sc_l_folded.nd (me_op o_add (me_op o_mod (me_var 1) me_int) (me_op o_div (me_var 1) me_int)))))
  (mss_one (ms_ret (me_var 1))))))
theorem ok_l_bytes (D : Def0 K mg "_law_bytes" s_l_bytes P_l_bytes) (g : Glb K mg) (d_l_folded : MDef P w K mg base 1 "_law_folded" l_folded) (d_l_two : MDef P w K mg base 1 "_law_two" l_two) : MDef P w K mg base 2 "_law_bytes" l_bytes :=
  mdef D sc_l_bytes 1 3 rfl rfl fun f cdv A outer s H E hr => (mss_cons (ms_set 1 sc_l_bytes.nd (me_op o_add (me_call d_l_two hr (by decide) (ma_cons (me_ix ix_ok (me_var 0) me_int) ma_nil)) (me_call d_l_two hr (by decide) (ma_cons (me_ix ix_ok (me_var 0) me_int) ma_nil))))
  (mss_cons (ms_for PassesOwn.never (mi_seq (me_slice (me_var 0) (mo_some me_int) (mo_some me_int))) (mg_name 2 sc_l_bytes.nd) (mss_one (ms_set 1 sc_l_bytes.nd (me_op o_add (me_op o_add (me_var 1) (me_call d_l_two hr (by decide) (ma_cons (me_op o_div (me_var 2) me_int) ma_nil))) (me_call d_l_two hr (by decide) (ma_cons (me_op o_mod (me_var 2) me_int) ma_nil))))))
  (mss_cons (ms_set 1 sc_l_bytes.nd (me_op o_add (me_op o_add (me_op o_add (me_var 1) (me_lst (ma_cons (me_ix ix_ok (me_lst (ma_cons me_int (ma_cons me_int ma_nil))) (me_callTy c_int g.b_int PyProof.Rows.boot_int (ma_cons (me_cmp o_gt (me_ix ix_ok (me_var 0) me_int) me_int) ma_nil))) (ma_cons (me_ix ix_ok (me_var 0) me_int) ma_nil)))) (me_call d_l_two hr (by decide) (ma_cons (me_ix ix_ok (me_var 0) me_int) ma_nil))) (me_lst (ma_cons me_int (ma_cons me_int (ma_cons me_int (ma_cons me_int ma_nil)))))))
  (mss_cons (ms_if (mt_cmp o_gt (me_ix ix_ok (me_var 0) me_int) me_int) (mss_one (ms_set 1 sc_l_bytes.nd (me_op o_add (me_op o_add (me_var 1) (me_lst (ma_cons me_int (ma_cons me_int ma_nil)))) (me_call d_l_two hr (by decide) (ma_cons (me_ix ix_ok (me_var 0) me_int) ma_nil))))) mss_nil)
  (mss_cons (ms_set 1 sc_l_bytes.nd (me_op o_add (me_var 1) (me_callTy c_list g.b_list PyProof.Rows.boot_list (ma_cons (me_ix ix_ok (me_var 0) me_int) ma_nil))))
  (mss_one (ms_ret (me_op o_add (me_op o_add (me_slice (me_var 1) mo_none (mo_some me_int)) (me_call d_l_two hr (by decide) (ma_cons (me_op o_sub me_int (me_call d_l_folded hr (by decide) (ma_cons (me_var 1) ma_nil))) ma_nil))) (me_slice (me_var 1) (mo_some me_int) mo_none)))))))))
theorem ok_l_any (D : Def0 K mg "_law_any" s_l_any P_l_any) (g : Glb K mg) (d_l_mix : MDef P w K mg base 2 "_law_mix" l_mix) : MDef P w K mg base 3 "_law_any" l_any :=
  mdef D sc_l_any 2 11 rfl rfl fun f cdv A outer s H E hr => (mss_cons (ms_set 2 sc_l_any.nd (me_op o_mod (me_call d_l_mix hr (by decide) (ma_cons (me_var 0) (ma_cons (me_var 1) ma_nil))) me_int))
  (mss_cons (ms_set 3 sc_l_any.nd me_int)
  (mss_cons (ms_if (MW.mt (mw_and (mt_cmp (o_eq hr.units) (me_op o_mod (me_op o_div (me_var 2) me_int) me_int) me_int) (mw_one_and (mt_cmp o_gt (me_op o_mod (me_call d_l_mix hr (by decide) (ma_cons (me_var 0) (ma_cons (me_op o_add (me_var 1) me_int) ma_nil))) me_int) me_int)))) (mss_cons (ms_set 3 sc_l_any.nd (me_ix ix_ok (me_lst (ma_cons me_int (ma_cons me_int (ma_cons me_int (ma_cons me_int (ma_cons me_int (ma_cons me_int ma_nil))))))) (me_op o_mod (me_call d_l_mix hr (by decide) (ma_cons (me_var 0) (ma_cons (me_op o_add (me_var 1) me_int) ma_nil))) me_int)))
    (mss_one (ms_if (mt_cmp (o_eq hr.units) (me_var 3) me_int) (mss_one (ms_set 3 sc_l_any.nd (me_op o_add me_int (me_op o_mod (me_call d_l_mix hr (by decide) (ma_cons (me_var 0) (ma_cons (me_op o_add (me_var 1) me_int) ma_nil))) me_int)))) mss_nil))) mss_nil)
  (mss_cons (ms_setOwn 4 sc_l_any.nd ma_nil)
  (mss_cons (ms_for PassesOwn.never (mi_range1 g.b_range (ma_cons me_int ma_nil)) (mg_name 5 sc_l_any.nd) (mss_cons (ms_set 6 sc_l_any.nd (me_call d_l_mix hr (by decide) (ma_cons (me_var 0) (ma_cons (me_op o_add (me_op o_add (me_var 1) me_int) (me_var 5)) ma_nil))))
    (mss_cons (ms_if (mt_cmp (o_eq hr.units) (me_op o_mod (me_var 6) me_int) me_int) (mss_one (ms_set 6 sc_l_any.nd (me_ix ix_ok (me_lst (ma_cons me_int (ma_cons me_int (ma_cons me_int (ma_cons me_int (ma_cons me_int (ma_cons me_int (ma_cons me_int ma_nil)))))))) (me_op o_mod (me_op o_div (me_var 6) me_int) me_int)))) mss_nil)
    (mss_one (ms_append 4 (me_var 6) (hpe := fun h => pe_bm PySem.F.plainAttrs_list PySem.F.slot_list_append PySem.F.type_list_append mt_append h (pa_cons (me_var 6) pa_nil)))))))
  (mss_cons (ms_set 7 sc_l_any.nd (me_tup (ma_cons (me_op o_mod (me_call d_l_mix hr (by decide) (ma_cons (me_var 0) (ma_cons (me_op o_add (me_var 1) me_int) ma_nil))) me_int) ma_nil)))
  (mss_cons (ms_set 7 sc_l_any.nd (me_op o_add (me_var 7) (me_tup (ma_cons (me_op o_mod (me_call d_l_mix hr (by decide) (ma_cons (me_var 0) (ma_cons (me_op o_add (me_var 1) me_int) ma_nil))) me_int) ma_nil))))
  (mss_cons (ms_set 8 sc_l_any.nd (me_ix ix_ok (me_lst (ma_cons me_int (ma_cons me_int (ma_cons me_int (ma_cons me_int (ma_cons me_int ma_nil)))))) (me_op o_mod (me_call d_l_mix hr (by decide) (ma_cons (me_var 0) (ma_cons (me_op o_add (me_var 1) me_int) ma_nil))) me_int)))
  (mss_cons (ms_if (mt_cmp (o_eq hr.units) (me_var 8) me_int) (mss_one (ms_set 8 sc_l_any.nd (me_op o_mod (me_call d_l_mix hr (by decide) (ma_cons (me_var 0) (ma_cons (me_op o_add (me_var 1) me_int) ma_nil))) me_int))) mss_nil)
  (mss_cons (ms_set 9 sc_l_any.nd (me_callTy c_tuple g.b_tuple PyProof.Rows.boot_tuple (ma_cons (me_lc (show CompScope _ (defScope s_l_any) "_law_k" ["_law_script", "_law_base", "_law_flags", "_law_most", "_law_numbers", "_law_k", "_law_number", "_law_ports", "_law_size", "_law_data", "_law_window"] ["_law_k", "_law_script", "_law_base"] [0, 1] from ⟨rfl, by decide +kernel, by decide +kernel, by decide +kernel, by decide +kernel, by decide +kernel, rfl, by decide, by decide +kernel⟩) rfl rfl (mi_range1 g.b_range (ma_cons (me_var 8) ma_nil)) (fun _ _ _ _ _ => (me_op o_mod (me_op o_div (me_call d_l_mix hr (by decide) (ma_cons (me_var 1) (ma_cons (me_op o_add (me_op o_add (me_var 2) me_int) (me_var 0)) ma_nil))) me_int) me_int))) ma_nil)))
  (mss_cons (ms_if (mt_cmp (o_eq hr.units) (me_op o_mod (me_call d_l_mix hr (by decide) (ma_cons (me_var 0) (ma_cons (me_op o_add (me_var 1) me_int) ma_nil))) me_int) me_int) (mss_one (ms_set 9 sc_l_any.nd (me_op o_mul (me_tup (ma_cons me_int ma_nil)) (me_var 8)))) mss_nil)
  (mss_cons (ms_set 10 sc_l_any.nd (me_op o_mod (me_call d_l_mix hr (by decide) (ma_cons (me_var 0) (ma_cons (me_op o_add (me_var 1) me_int) ma_nil))) me_int))
  (mss_one (ms_freeze 4 (ms_ret (me_op o_add (me_var 7) (me_tup (ma_cons (me_ix ix_ok (me_var 4) me_int) (ma_cons (me_ix ix_ok (me_var 4) me_int) (ma_cons (me_var 2) (ma_cons (me_var 10) (ma_cons (me_var 3) (ma_cons (me_var 9) ma_nil)))))))))))))))))))))))
theorem ok_l_plus (D : Def0 K mg "_law_plus" s_l_plus P_l_plus) (g : Glb K mg)  : MDef P w K mg base 1 "_law_plus" l_plus :=
  mdef D sc_l_plus 2 2 rfl rfl fun f cdv A outer s H E hr => (mss_one (ms_ret (me_op o_mod (me_op o_add (me_var 0) (me_var 1)) me_int)))
theorem ok_l_law {fl : Addr} {fdl : FuncData} (F : Fun K "law" "law" s_l_law fl fdl) (g : Glb K mg) (d_l_any : MDef P w K mg base 3 "_law_any" l_any) (d_l_bytes : MDef P w K mg base 2 "_law_bytes" l_bytes) (d_l_mix : MDef P w K mg base 2 "_law_mix" l_mix) (d_l_plus : MDef P w K mg base 1 "_law_plus" l_plus) (d_p_abort : MDef P w K mg base 1 "abort" p_abort) (d_p_arrive : MDef P w K mg base 6 "arrive" p_arrive) (d_p_close : MDef P w K mg base 1 "close" p_close) (d_p_error : MDef P w K mg base 1 "error" p_error) (d_p_opened : MDef P w K mg base 5 "opened" p_opened) (d_p_send : MDef P w K mg base 8 "send" p_send) (d_p_state : MDef P w K mg base 1 "state" p_state) : FnOk P w K mg base CX0 9 fl fdl P_l_law (spM ⟨clOf mg, K⟩ l_law) :=
  mfn F sc_l_law 1 12 rfl rfl fun cdv A outer s H E hr => (mss_cons (ms_set 1 sc_l_law.nd (me_call d_l_any hr (by decide) (ma_cons (me_var 0) (ma_cons me_int ma_nil))))
  (mss_cons (ms_set 2 sc_l_law.nd (me_call d_l_mix hr (by decide) (ma_cons (me_var 0) (ma_cons me_int ma_nil))))
  (mss_cons (ms_set 3 sc_l_law.nd (me_ix ix_ok (me_var 1) me_int))
  (mss_cons (ms_if (mt_cmp (o_eq hr.units) (me_op o_mod (me_call d_l_mix hr (by decide) (ma_cons (me_var 0) (ma_cons me_int ma_nil))) me_int) me_int) (mss_one (ms_set 3 sc_l_law.nd (me_op o_mod (me_op o_add (me_op o_add (me_var 3) me_int) (me_op o_mod (me_call d_l_mix hr (by decide) (ma_cons (me_var 0) (ma_cons me_int ma_nil))) me_int)) me_int))) mss_nil)
  (mss_cons (ms_set 4 sc_l_law.nd (me_call d_p_opened hr (by decide) (ma_cons (me_var 3) (ma_cons (me_op o_mod (me_call d_l_mix hr (by decide) (ma_cons (me_var 0) (ma_cons me_int ma_nil))) me_int) (ma_cons (me_var 2) (ma_cons (me_cmp (o_eq hr.units) (me_op o_mod (me_call d_l_mix hr (by decide) (ma_cons (me_var 0) (ma_cons me_int ma_nil))) me_int) me_int) ma_nil))))))
  (mss_cons (ms_set 5 sc_l_law.nd (me_cmp (o_eq hr.units) (me_op o_mod (me_call d_l_mix hr (by decide) (ma_cons (me_var 0) (ma_cons me_int ma_nil))) me_int) me_int))
  (mss_cons (ms_if (mt_truth (me_var 5)) (mss_one (ms_set 4 sc_l_law.nd (me_call d_p_opened hr (by decide) (ma_cons (me_var 3) (ma_cons (me_op o_mod (me_call d_l_mix hr (by decide) (ma_cons (me_var 0) (ma_cons me_int ma_nil))) me_int) (ma_cons (me_var 2) (ma_cons me_bl ma_nil))))))) (mss_one (ms_if (mt_cmp (o_eq hr.units) (me_op o_mod (me_call d_l_mix hr (by decide) (ma_cons (me_var 0) (ma_cons me_int ma_nil))) me_int) me_int) (mss_one (ms_if (MW.mt (mw_or (mt_cmp o_isnot (me_call d_p_close hr (by decide) (ma_cons (me_var 4) ma_nil)) me_bl) (mw_one_or (mt_cmp o_isnot (me_call d_p_abort hr (by decide) (ma_cons (me_var 4) ma_nil)) me_bl)))) (mss_one (ms_ret me_bl)) mss_nil)) (mss_one (ms_if (MW.mt (mw_or (mt_cmp o_isnot (me_call d_p_abort hr (by decide) (ma_cons (me_var 4) ma_nil)) me_bl) (mw_one_or (mt_cmp o_isnot (me_call d_p_close hr (by decide) (ma_cons (me_var 4) ma_nil)) me_bl)))) (mss_one (ms_ret me_bl)) mss_nil)))))
  (mss_cons (ms_set 6 sc_l_law.nd (me_call d_p_arrive hr (by decide) (ma_cons (me_var 4) (ma_cons (me_call d_l_bytes hr (by decide) (ma_cons (me_var 1) ma_nil)) (ma_cons me_int ma_nil)))))
  (mss_cons (ms_if (MW.mt (mw_or (mt_not (mt_truth (me_callB c_inst g.b_isinstance PyProof.Rows.boot_isinstance (ma_cons (me_var 6) (ma_cons (me_ty g.b_bool PyProof.Rows.boot_bool) ma_nil))))) (mw_one_or (mt_cmp (o_ne hr.units) (me_var 6) (me_cmp (o_eq hr.units) (me_var 3) (me_ix ix_ok (me_var 1) me_int)))))) (mss_one (ms_ret me_bl)) mss_nil)
  (mss_cons (ms_set 7 sc_l_law.nd (me_ix ix_ok (me_var 1) me_int))
  (mss_cons (ms_set 8 sc_l_law.nd (me_cmp (o_eq hr.units) (me_op o_mod (me_op o_div (me_var 7) me_int) me_int) me_int))
  (mss_cons (ms_set 9 sc_l_law.nd (me_op o_add (me_op o_add (me_callB c_len g.b_len PySem.boot_len (ma_cons (me_ix ix_ok (me_var 1) me_int) ma_nil)) (me_op o_mod (me_op o_div (me_var 7) me_int) me_int)) (me_op o_mod (me_var 7) me_int)))
  (mss_cons (ms_set 10 sc_l_law.nd (me_lst ma_nil))
  (mss_cons (ms_set 11 sc_l_law.nd (me_ite (mt_truth (me_var 5)) me_str me_str))
  (mss_cons (ms_if (MW.mt (mw_and (mt_truth (me_var 6)) (mw_and (mt_cmp (o_eq hr.units) (me_op o_mod (me_op o_div (me_var 7) me_int) me_int) me_int) (mw_one_and (MW.mt (mw_or (mt_truth (me_var 8)) (mw_one_or (mt_not (mt_truth (me_var 5)))))))))) (mss_one (ms_if (mt_truth (me_var 8)) (mss_one (ms_set 10 sc_l_law.nd (me_call d_l_bytes hr (by decide) (ma_cons (me_tup (ma_cons (me_var 3) (ma_cons (me_ix ix_ok (me_var 1) me_int) (ma_cons (me_ix ix_ok (me_var 1) me_int) (ma_cons me_int (ma_cons me_int (ma_cons me_int (ma_cons me_int (ma_cons (me_tup ma_nil) ma_nil))))))))) ma_nil)))) (mss_one (ms_set 10 sc_l_law.nd (me_call d_l_bytes hr (by decide) (ma_cons (me_tup (ma_cons (me_var 3) (ma_cons (me_ix ix_ok (me_var 1) me_int) (ma_cons me_int (ma_cons (me_call d_l_plus hr (by decide) (ma_cons (me_ix ix_ok (me_var 1) me_int) (ma_cons (me_var 9) ma_nil))) (ma_cons me_int (ma_cons me_int (ma_cons me_int (ma_cons (me_tup ma_nil) ma_nil))))))))) ma_nil)))))) (mss_one (ms_if (MW.mt (mw_and (mt_truth (me_var 6)) (mw_and (mt_truth (me_var 5)) (mw_and (mt_cmp (o_eq hr.units) (me_op o_mod (me_op o_div (me_var 7) me_int) me_int) me_int) (mw_one_and (mt_cmp (o_eq hr.units) (me_op o_mod (me_op o_div (me_var 7) me_int) me_int) me_int)))))) (mss_cons (ms_set 11 sc_l_law.nd me_str)
      (mss_one (ms_set 10 sc_l_law.nd (me_call d_l_bytes hr (by decide) (ma_cons (me_tup (ma_cons (me_var 3) (ma_cons (me_ix ix_ok (me_var 1) me_int) (ma_cons (me_var 2) (ma_cons (me_call d_l_plus hr (by decide) (ma_cons (me_ix ix_ok (me_var 1) me_int) (ma_cons me_int ma_nil))) (ma_cons me_int (ma_cons me_int (ma_cons me_int (ma_cons (me_tup ma_nil) ma_nil))))))))) ma_nil))))) mss_nil)))
  (mss_cons (ms_if (MW.mt (mw_or (mt_cmp (o_ne hr.units) (me_call d_p_state hr (by decide) (ma_cons (me_var 4) ma_nil)) (me_var 11)) (mw_one_or (mt_cmp (o_ne hr.units) (me_call d_p_error hr (by decide) (ma_cons (me_var 4) ma_nil)) me_str)))) (mss_one (ms_ret me_bl)) mss_nil)
  (mss_one (ms_ret (me_and (me_cmp (o_eq hr.units) (me_call d_p_send hr (by decide) (ma_cons (me_var 4) (ma_cons me_int ma_nil))) (me_var 10)) (me_one (me_or (me_cmp (o_eq hr.units) (me_var 10) (me_lst ma_nil)) (me_one (me_cmp (o_eq hr.units) (me_call d_p_send hr (by decide) (ma_cons (me_var 4) (ma_cons me_int ma_nil))) (me_lst ma_nil))))))))))))))))))))))))
theorem ok_all {fl : Addr} {fdl : FuncData} (F : Fun K "law" "law" s_l_law fl fdl) (D_p_Pile_init : Mk0 K mg "Pile" "Pile.__init__" s_p_Pile_init P_p_Pile_init) (D_p_room : Def0 K mg "room" s_p_room P_p_room) (D_p_plus : Def0 K mg "plus" s_p_plus P_p_plus) (D_p_offset : Def0 K mg "offset" s_p_offset P_p_offset) (D_p_End_init : Mk0 K mg "End" "End.__init__" s_p_End_init P_p_End_init) (D_p_start_timer : Def0 K mg "start_timer" s_p_start_timer P_p_start_timer) (D_p_state : Def0 K mg "state" s_p_state P_p_state) (D_p_error : Def0 K mg "error" s_p_error P_p_error) (D_p_our_window : Def0 K mg "our_window" s_p_our_window P_p_our_window) (D_p_folded : Def0 K mg "folded" s_p_folded P_p_folded) (D_p_sum_of : Def0 K mg "sum_of" s_p_sum_of P_p_sum_of) (D_p_length : Def0 K mg "length" s_p_length P_p_length) (D_p_has : Def0 K mg "has" s_p_has P_p_has) (D_p_bears : Def0 K mg "bears" s_p_bears P_p_bears) (D_p_put : Def0 K mg "put" s_p_put P_p_put) (D_p_bytes_ahead_of_sum : Def0 K mg "bytes_ahead_of_sum" s_p_bytes_ahead_of_sum P_p_bytes_ahead_of_sum) (D_p_byte_of_head : Def0 K mg "byte_of_head" s_p_byte_of_head P_p_byte_of_head) (D_p_bytes_of_most : Def0 K mg "bytes_of_most" s_p_bytes_of_most P_p_bytes_of_most) (D_p_two_bytes : Def0 K mg "two_bytes" s_p_two_bytes P_p_two_bytes) (D_p_four_bytes : Def0 K mg "four_bytes" s_p_four_bytes P_p_four_bytes) (D_p_is_right : Def0 K mg "is_right" s_p_is_right P_p_is_right) (D_p_head_of : Def0 K mg "head_of" s_p_head_of P_p_head_of) (D_p_is_right_long_head : Def0 K mg "is_right_long_head" s_p_is_right_long_head P_p_is_right_long_head) (D_p_get : Def0 K mg "get" s_p_get P_p_get) (D_p_two_at : Def0 K mg "two_at" s_p_two_at P_p_two_at) (D_p_four_at : Def0 K mg "four_at" s_p_four_at P_p_four_at) (D_p_reset_for : Def0 K mg "reset_for" s_p_reset_for P_p_reset_for) (D_p_owe_reset_for : Def0 K mg "owe_reset_for" s_p_owe_reset_for P_p_owe_reset_for) (D_p_come_to_closed : Def0 K mg "come_to_closed" s_p_come_to_closed P_p_come_to_closed) (D_p_come_to_listen : Def0 K mg "come_to_listen" s_p_come_to_listen P_p_come_to_listen) (D_p_hear_syn : Def0 K mg "hear_syn" s_p_hear_syn P_p_hear_syn) (D_p_come_to_syn_sent : Def0 K mg "come_to_syn_sent" s_p_come_to_syn_sent P_p_come_to_syn_sent) (D_p_answers_syn : Def0 K mg "answers_syn" s_p_answers_syn P_p_answers_syn) (D_p_refuse : Def0 K mg "refuse" s_p_refuse P_p_refuse) (D_p_go_on_from_syn_sent : Def0 K mg "go_on_from_syn_sent" s_p_go_on_from_syn_sent P_p_go_on_from_syn_sent) (D_p_arrive : Def0 K mg "arrive" s_p_arrive P_p_arrive) (D_p_is_for : Def0 K mg "is_for" s_p_is_for P_p_is_for) (D_p_come_to_stream : Def0 K mg "come_to_stream" s_p_come_to_stream P_p_come_to_stream) (D_p_opened : Def0 K mg "opened" s_p_opened P_p_opened) (D_p_close : Def0 K mg "close" s_p_close P_p_close) (D_p_abort : Def0 K mg "abort" s_p_abort P_p_abort) (D_p_send : Def0 K mg "send" s_p_send P_p_send) (D_p_going : Def0 K mg "going" s_p_going P_p_going) (D_p_paid_reset : Def0 K mg "paid_reset" s_p_paid_reset P_p_paid_reset) (D_p_is_due : Def0 K mg "is_due" s_p_is_due P_p_is_due) (D_p_again : Def0 K mg "again" s_p_again P_p_again) (D_p_most_at_once : Def0 K mg "most_at_once" s_p_most_at_once P_p_most_at_once) (D_p_paid_syn : Def0 K mg "paid_syn" s_p_paid_syn P_p_paid_syn) (D_p_segment_of : Def0 K mg "segment_of" s_p_segment_of P_p_segment_of) (D_p_going_as_new : Def0 K mg "going_as_new" s_p_going_as_new P_p_going_as_new) (D_p_new_syn : Def0 K mg "new_syn" s_p_new_syn P_p_new_syn) (D_p_has_more : Def0 K mg "has_more" s_p_has_more P_p_has_more) (D_p_has_new_data : Def0 K mg "has_new_data" s_p_has_new_data P_p_has_new_data) (D_p_unsent : Def0 K mg "unsent" s_p_unsent P_p_unsent) (D_p_has_new_fin : Def0 K mg "has_new_fin" s_p_has_new_fin P_p_has_new_fin) (D_p_new_piece : Def0 K mg "new_piece" s_p_new_piece P_p_new_piece) (D_p_new_data : Def0 K mg "new_data" s_p_new_data P_p_new_data) (D_p_new_fin : Def0 K mg "new_fin" s_p_new_fin P_p_new_fin) (D_p_going_as_probe : Def0 K mg "going_as_probe" s_p_going_as_probe P_p_going_as_probe) (D_p_going_as_answer : Def0 K mg "going_as_answer" s_p_going_as_answer P_p_going_as_answer) (D_l_cell : Def0 K mg "_law_cell" s_l_cell P_l_cell) (D_l_mix : Def0 K mg "_law_mix" s_l_mix P_l_mix) (D_l_two : Def0 K mg "_law_two" s_l_two P_l_two) (D_l_folded : Def0 K mg "_law_folded" s_l_folded P_l_folded) (D_l_bytes : Def0 K mg "_law_bytes" s_l_bytes P_l_bytes) (D_l_any : Def0 K mg "_law_any" s_l_any P_l_any) (D_l_plus : Def0 K mg "_law_plus" s_l_plus P_l_plus) (g : Glb K mg) : FnOk P w K mg base CX0 9 fl fdl P_l_law (spM ⟨clOf mg, K⟩ l_law) := by
  have d_p_Pile_init := ok_p_Pile_init (P := P) (w := w) (base := base) D_p_Pile_init g 
  have d_p_room := ok_p_room (P := P) (w := w) (base := base) D_p_room g 
  have d_p_plus := ok_p_plus (P := P) (w := w) (base := base) D_p_plus g 
  have d_p_offset := ok_p_offset (P := P) (w := w) (base := base) D_p_offset g 
  have d_p_End_init := ok_p_End_init (P := P) (w := w) (base := base) D_p_End_init g d_p_Pile_init d_p_plus
  have d_p_start_timer := ok_p_start_timer (P := P) (w := w) (base := base) D_p_start_timer g 
  have d_p_state := ok_p_state (P := P) (w := w) (base := base) D_p_state g 
  have d_p_error := ok_p_error (P := P) (w := w) (base := base) D_p_error g 
  have d_p_our_window := ok_p_our_window (P := P) (w := w) (base := base) D_p_our_window g d_p_room
  have d_p_folded := ok_p_folded (P := P) (w := w) (base := base) D_p_folded g 
  have d_p_sum_of := ok_p_sum_of (P := P) (w := w) (base := base) D_p_sum_of g d_p_folded
  have d_p_has := ok_p_has (P := P) (w := w) (base := base) D_p_has g 
  have d_p_length := ok_p_length (P := P) (w := w) (base := base) D_p_length g d_p_has
  have d_p_bears := ok_p_bears (P := P) (w := w) (base := base) D_p_bears g d_p_has
  have d_p_byte_of_head := ok_p_byte_of_head (P := P) (w := w) (base := base) D_p_byte_of_head g 
  have d_p_two_bytes := ok_p_two_bytes (P := P) (w := w) (base := base) D_p_two_bytes g 
  have d_p_four_bytes := ok_p_four_bytes (P := P) (w := w) (base := base) D_p_four_bytes g d_p_two_bytes
  have d_p_bytes_ahead_of_sum := ok_p_bytes_ahead_of_sum (P := P) (w := w) (base := base) D_p_bytes_ahead_of_sum g d_p_byte_of_head d_p_four_bytes d_p_two_bytes
  have d_p_bytes_of_most := ok_p_bytes_of_most (P := P) (w := w) (base := base) D_p_bytes_of_most g d_p_two_bytes
  have d_p_put := ok_p_put (P := P) (w := w) (base := base) D_p_put g d_p_bytes_ahead_of_sum d_p_bytes_of_most d_p_sum_of d_p_two_bytes
  have d_p_head_of := ok_p_head_of (P := P) (w := w) (base := base) D_p_head_of g 
  have d_p_two_at := ok_p_two_at (P := P) (w := w) (base := base) D_p_two_at g 
  have d_p_is_right_long_head := ok_p_is_right_long_head (P := P) (w := w) (base := base) D_p_is_right_long_head g d_p_has d_p_two_at
  have d_p_is_right := ok_p_is_right (P := P) (w := w) (base := base) D_p_is_right g d_p_byte_of_head d_p_folded d_p_head_of d_p_is_right_long_head d_p_two_at
  have d_p_four_at := ok_p_four_at (P := P) (w := w) (base := base) D_p_four_at g d_p_two_at
  have d_p_get := ok_p_get (P := P) (w := w) (base := base) D_p_get g d_p_four_at d_p_head_of d_p_is_right d_p_two_at
  have d_p_reset_for := ok_p_reset_for (P := P) (w := w) (base := base) D_p_reset_for g d_p_bears d_p_length d_p_plus
  have d_p_owe_reset_for := ok_p_owe_reset_for (P := P) (w := w) (base := base) D_p_owe_reset_for g d_p_bears d_p_reset_for
  have d_p_come_to_closed := ok_p_come_to_closed (P := P) (w := w) (base := base) D_p_come_to_closed g d_p_owe_reset_for
  have d_p_hear_syn := ok_p_hear_syn (P := P) (w := w) (base := base) D_p_hear_syn g d_p_bears d_p_plus
  have d_p_come_to_listen := ok_p_come_to_listen (P := P) (w := w) (base := base) D_p_come_to_listen g d_p_bears d_p_hear_syn d_p_owe_reset_for
  have d_p_answers_syn := ok_p_answers_syn (P := P) (w := w) (base := base) D_p_answers_syn g d_p_plus
  have d_p_go_on_from_syn_sent := ok_p_go_on_from_syn_sent (P := P) (w := w) (base := base) D_p_go_on_from_syn_sent g d_p_bears d_p_start_timer
  have d_p_refuse := ok_p_refuse (P := P) (w := w) (base := base) D_p_refuse g d_p_bears
  have d_p_come_to_syn_sent := ok_p_come_to_syn_sent (P := P) (w := w) (base := base) D_p_come_to_syn_sent g d_p_answers_syn d_p_bears d_p_go_on_from_syn_sent d_p_hear_syn d_p_owe_reset_for d_p_refuse
  have d_p_come_to_stream := ok_p_come_to_stream (P := P) (w := w) (base := base) D_p_come_to_stream g 
  have d_p_is_for := ok_p_is_for (P := P) (w := w) (base := base) D_p_is_for g 
  have d_p_arrive := ok_p_arrive (P := P) (w := w) (base := base) D_p_arrive g d_p_come_to_closed d_p_come_to_listen d_p_come_to_stream d_p_come_to_syn_sent d_p_get d_p_is_for d_p_is_right
  have d_p_opened := ok_p_opened (P := P) (w := w) (base := base) D_p_opened g d_p_End_init
  have d_p_close := ok_p_close (P := P) (w := w) (base := base) D_p_close g 
  have d_p_abort := ok_p_abort (P := P) (w := w) (base := base) D_p_abort g 
  have d_p_most_at_once := ok_p_most_at_once (P := P) (w := w) (base := base) D_p_most_at_once g 
  have d_p_paid_syn := ok_p_paid_syn (P := P) (w := w) (base := base) D_p_paid_syn g 
  have d_p_segment_of := ok_p_segment_of (P := P) (w := w) (base := base) D_p_segment_of g d_p_our_window
  have d_p_again := ok_p_again (P := P) (w := w) (base := base) D_p_again g d_p_most_at_once d_p_offset d_p_paid_syn d_p_segment_of
  have d_p_going_as_answer := ok_p_going_as_answer (P := P) (w := w) (base := base) D_p_going_as_answer g d_p_segment_of
  have d_p_unsent := ok_p_unsent (P := P) (w := w) (base := base) D_p_unsent g d_p_offset
  have d_p_has_new_data := ok_p_has_new_data (P := P) (w := w) (base := base) D_p_has_new_data g d_p_unsent
  have d_p_has_new_fin := ok_p_has_new_fin (P := P) (w := w) (base := base) D_p_has_new_fin g d_p_unsent
  have d_p_has_more := ok_p_has_more (P := P) (w := w) (base := base) D_p_has_more g d_p_has_new_data d_p_has_new_fin
  have d_p_new_data := ok_p_new_data (P := P) (w := w) (base := base) D_p_new_data g d_p_most_at_once d_p_offset d_p_plus d_p_segment_of d_p_unsent
  have d_p_new_fin := ok_p_new_fin (P := P) (w := w) (base := base) D_p_new_fin g d_p_plus d_p_segment_of
  have d_p_new_piece := ok_p_new_piece (P := P) (w := w) (base := base) D_p_new_piece g d_p_has_new_data d_p_new_data d_p_new_fin
  have d_p_new_syn := ok_p_new_syn (P := P) (w := w) (base := base) D_p_new_syn g d_p_paid_syn d_p_plus d_p_start_timer
  have d_p_going_as_new := ok_p_going_as_new (P := P) (w := w) (base := base) D_p_going_as_new g d_p_has_more d_p_new_piece d_p_new_syn d_p_offset d_p_start_timer
  have d_p_is_due := ok_p_is_due (P := P) (w := w) (base := base) D_p_is_due g 
  have d_p_going_as_probe := ok_p_going_as_probe (P := P) (w := w) (base := base) D_p_going_as_probe g d_p_has_more d_p_is_due d_p_new_piece d_p_start_timer
  have d_p_paid_reset := ok_p_paid_reset (P := P) (w := w) (base := base) D_p_paid_reset g 
  have d_p_going := ok_p_going (P := P) (w := w) (base := base) D_p_going g d_p_again d_p_going_as_answer d_p_going_as_new d_p_going_as_probe d_p_is_due d_p_paid_reset
  have d_p_send := ok_p_send (P := P) (w := w) (base := base) D_p_send g d_p_going d_p_put
  have d_l_cell := ok_l_cell (P := P) (w := w) (base := base) D_l_cell g 
  have d_l_mix := ok_l_mix (P := P) (w := w) (base := base) D_l_mix g d_l_cell
  have d_l_two := ok_l_two (P := P) (w := w) (base := base) D_l_two g 
  have d_l_folded := ok_l_folded (P := P) (w := w) (base := base) D_l_folded g 
  have d_l_bytes := ok_l_bytes (P := P) (w := w) (base := base) D_l_bytes g d_l_folded d_l_two
  have d_l_any := ok_l_any (P := P) (w := w) (base := base) D_l_any g d_l_mix
  have d_l_plus := ok_l_plus (P := P) (w := w) (base := base) D_l_plus g 
  exact ok_l_law F g d_l_any d_l_bytes d_l_mix d_l_plus d_p_abort d_p_arrive d_p_close d_p_error d_p_opened d_p_send d_p_state
end
theorem all_mk {l : PySem.W.OpenLaw} {w : World} {K : PySem.W.Frag} {h : Heap} {mg : Str → Option Value} {fa f0 f1 f2 f3 f4 f5 f6 f7 f8 f9 f10 f11 f12 f13 f14 f15 f16 f17 f18 f19 f20 f21 f22 f23 f24 f25 f26 f27 f28 f29 f30 f31 f32 f33 f34 f35 f36 f37 f38 f39 f40 f41 f42 f43 f44 f45 f46 f47 f48 f49 f50 f51 f52 f53 f54 f55 f56 f57 f58 f59 f60 f61 f62 f63 f64 f65 f66 f67 C_End C_Pile : Addr} (X : K.In h) (G : h.Ns mainGlobals mg) (hfa : mg "law" = some (.ref fa))
    {t_ACK t_ANSWER t_CLOSED t_CLOSE_WAIT t_CLOSING t_DATA t_FIN t_FIRST_WAIT t_FLAGS t_GOAL t_GREATEST_DATA t_GREATEST_FLAGS t_GREATEST_WORD t_HALF_ROUND t_LAST_ACK t_LAST_WAIT t_LEAST_MOST t_LISTEN t_LONGEST_WAIT t_LONG_HEAD t_MOST t_MOST_TRIES t_MOST_UNTOLD t_NO_ERROR t_NUMBER t_OPEN t_PSH t_REFUSED t_RIGHT_SUM t_ROOM t_ROUND t_RST t_SHORT_HEAD t_SOURCE t_SYN t_SYN_COME t_SYN_SENT t_TIME t_TIME_WAIT t_WAIT_ONE t_WINDOW t_WORDS : Tok}
    (aC_End : PySem.W.nsIn K mainGlobals "End" = some (some (.ref C_End)))
    (aC_Pile : PySem.W.nsIn K mainGlobals "Pile" = some (some (.ref C_Pile)))
    {od0 an0 : Option Addr} {sl0 : Array (Option Value)} {oc0 kV0 dc0 pm0 cd0 ct0 : Value}
    (a0 : PySem.W.findIn K (.ref C_Pile) "__init__" = some (some (.ref f0))) (i0 : PySem.W.isFn K (.ref f0) = true) (l0 : K.lookup f0 = some ⟨oc0, od0, .func (PySem.W.fnOf "__init__" "Pile.__init__" (defArgs s_p_Pile_init) (defBody s_p_Pile_init) (defScope s_p_Pile_init) .none kV0 dc0 pm0 an0 cd0 ct0), sl0⟩) (c0 : PySem.W.codeIn K cd0 "Pile.__init__" = true) (k0 : PySem.W.keepIn K (.ref f0) = true)
    {od1 an1 : Option Addr} {sl1 : Array (Option Value)} {oc1 kV1 dc1 pm1 cd1 ct1 : Value}
    (a1 : PySem.W.nsIn K mainGlobals "room" = some (some (.ref f1))) (l1 : K.lookup f1 = some ⟨oc1, od1, .func (PySem.W.fnOf "room" "room" (defArgs s_p_room) (defBody s_p_room) (defScope s_p_room) .none kV1 dc1 pm1 an1 cd1 ct1), sl1⟩) (c1 : PySem.W.codeIn K cd1 "room" = true) (k1 : PySem.W.keepIn K (.ref f1) = true)
    {od2 an2 : Option Addr} {sl2 : Array (Option Value)} {oc2 kV2 dc2 pm2 cd2 ct2 : Value}
    (a2 : PySem.W.nsIn K mainGlobals "plus" = some (some (.ref f2))) (l2 : K.lookup f2 = some ⟨oc2, od2, .func (PySem.W.fnOf "plus" "plus" (defArgs s_p_plus) (defBody s_p_plus) (defScope s_p_plus) .none kV2 dc2 pm2 an2 cd2 ct2), sl2⟩) (c2 : PySem.W.codeIn K cd2 "plus" = true) (k2 : PySem.W.keepIn K (.ref f2) = true)
    {od3 an3 : Option Addr} {sl3 : Array (Option Value)} {oc3 kV3 dc3 pm3 cd3 ct3 : Value}
    (a3 : PySem.W.nsIn K mainGlobals "offset" = some (some (.ref f3))) (l3 : K.lookup f3 = some ⟨oc3, od3, .func (PySem.W.fnOf "offset" "offset" (defArgs s_p_offset) (defBody s_p_offset) (defScope s_p_offset) .none kV3 dc3 pm3 an3 cd3 ct3), sl3⟩) (c3 : PySem.W.codeIn K cd3 "offset" = true) (k3 : PySem.W.keepIn K (.ref f3) = true)
    {od4 an4 : Option Addr} {sl4 : Array (Option Value)} {oc4 kV4 dc4 pm4 cd4 ct4 : Value}
    (a4 : PySem.W.findIn K (.ref C_End) "__init__" = some (some (.ref f4))) (i4 : PySem.W.isFn K (.ref f4) = true) (l4 : K.lookup f4 = some ⟨oc4, od4, .func (PySem.W.fnOf "__init__" "End.__init__" (defArgs s_p_End_init) (defBody s_p_End_init) (defScope s_p_End_init) .none kV4 dc4 pm4 an4 cd4 ct4), sl4⟩) (c4 : PySem.W.codeIn K cd4 "End.__init__" = true) (k4 : PySem.W.keepIn K (.ref f4) = true)
    {od5 an5 : Option Addr} {sl5 : Array (Option Value)} {oc5 kV5 dc5 pm5 cd5 ct5 : Value}
    (a5 : PySem.W.nsIn K mainGlobals "start_timer" = some (some (.ref f5))) (l5 : K.lookup f5 = some ⟨oc5, od5, .func (PySem.W.fnOf "start_timer" "start_timer" (defArgs s_p_start_timer) (defBody s_p_start_timer) (defScope s_p_start_timer) .none kV5 dc5 pm5 an5 cd5 ct5), sl5⟩) (c5 : PySem.W.codeIn K cd5 "start_timer" = true) (k5 : PySem.W.keepIn K (.ref f5) = true)
    {od6 an6 : Option Addr} {sl6 : Array (Option Value)} {oc6 kV6 dc6 pm6 cd6 ct6 : Value}
    (a6 : PySem.W.nsIn K mainGlobals "state" = some (some (.ref f6))) (l6 : K.lookup f6 = some ⟨oc6, od6, .func (PySem.W.fnOf "state" "state" (defArgs s_p_state) (defBody s_p_state) (defScope s_p_state) .none kV6 dc6 pm6 an6 cd6 ct6), sl6⟩) (c6 : PySem.W.codeIn K cd6 "state" = true) (k6 : PySem.W.keepIn K (.ref f6) = true)
    {od7 an7 : Option Addr} {sl7 : Array (Option Value)} {oc7 kV7 dc7 pm7 cd7 ct7 : Value}
    (a7 : PySem.W.nsIn K mainGlobals "error" = some (some (.ref f7))) (l7 : K.lookup f7 = some ⟨oc7, od7, .func (PySem.W.fnOf "error" "error" (defArgs s_p_error) (defBody s_p_error) (defScope s_p_error) .none kV7 dc7 pm7 an7 cd7 ct7), sl7⟩) (c7 : PySem.W.codeIn K cd7 "error" = true) (k7 : PySem.W.keepIn K (.ref f7) = true)
    {od8 an8 : Option Addr} {sl8 : Array (Option Value)} {oc8 kV8 dc8 pm8 cd8 ct8 : Value}
    (a8 : PySem.W.nsIn K mainGlobals "our_window" = some (some (.ref f8))) (l8 : K.lookup f8 = some ⟨oc8, od8, .func (PySem.W.fnOf "our_window" "our_window" (defArgs s_p_our_window) (defBody s_p_our_window) (defScope s_p_our_window) .none kV8 dc8 pm8 an8 cd8 ct8), sl8⟩) (c8 : PySem.W.codeIn K cd8 "our_window" = true) (k8 : PySem.W.keepIn K (.ref f8) = true)
    {od9 an9 : Option Addr} {sl9 : Array (Option Value)} {oc9 kV9 dc9 pm9 cd9 ct9 : Value}
    (a9 : PySem.W.nsIn K mainGlobals "folded" = some (some (.ref f9))) (l9 : K.lookup f9 = some ⟨oc9, od9, .func (PySem.W.fnOf "folded" "folded" (defArgs s_p_folded) (defBody s_p_folded) (defScope s_p_folded) .none kV9 dc9 pm9 an9 cd9 ct9), sl9⟩) (c9 : PySem.W.codeIn K cd9 "folded" = true) (k9 : PySem.W.keepIn K (.ref f9) = true)
    {od10 an10 : Option Addr} {sl10 : Array (Option Value)} {oc10 kV10 dc10 pm10 cd10 ct10 : Value}
    (a10 : PySem.W.nsIn K mainGlobals "sum_of" = some (some (.ref f10))) (l10 : K.lookup f10 = some ⟨oc10, od10, .func (PySem.W.fnOf "sum_of" "sum_of" (defArgs s_p_sum_of) (defBody s_p_sum_of) (defScope s_p_sum_of) .none kV10 dc10 pm10 an10 cd10 ct10), sl10⟩) (c10 : PySem.W.codeIn K cd10 "sum_of" = true) (k10 : PySem.W.keepIn K (.ref f10) = true)
    {od11 an11 : Option Addr} {sl11 : Array (Option Value)} {oc11 kV11 dc11 pm11 cd11 ct11 : Value}
    (a11 : PySem.W.nsIn K mainGlobals "length" = some (some (.ref f11))) (l11 : K.lookup f11 = some ⟨oc11, od11, .func (PySem.W.fnOf "length" "length" (defArgs s_p_length) (defBody s_p_length) (defScope s_p_length) .none kV11 dc11 pm11 an11 cd11 ct11), sl11⟩) (c11 : PySem.W.codeIn K cd11 "length" = true) (k11 : PySem.W.keepIn K (.ref f11) = true)
    {od12 an12 : Option Addr} {sl12 : Array (Option Value)} {oc12 kV12 dc12 pm12 cd12 ct12 : Value}
    (a12 : PySem.W.nsIn K mainGlobals "has" = some (some (.ref f12))) (l12 : K.lookup f12 = some ⟨oc12, od12, .func (PySem.W.fnOf "has" "has" (defArgs s_p_has) (defBody s_p_has) (defScope s_p_has) .none kV12 dc12 pm12 an12 cd12 ct12), sl12⟩) (c12 : PySem.W.codeIn K cd12 "has" = true) (k12 : PySem.W.keepIn K (.ref f12) = true)
    {od13 an13 : Option Addr} {sl13 : Array (Option Value)} {oc13 kV13 dc13 pm13 cd13 ct13 : Value}
    (a13 : PySem.W.nsIn K mainGlobals "bears" = some (some (.ref f13))) (l13 : K.lookup f13 = some ⟨oc13, od13, .func (PySem.W.fnOf "bears" "bears" (defArgs s_p_bears) (defBody s_p_bears) (defScope s_p_bears) .none kV13 dc13 pm13 an13 cd13 ct13), sl13⟩) (c13 : PySem.W.codeIn K cd13 "bears" = true) (k13 : PySem.W.keepIn K (.ref f13) = true)
    {od14 an14 : Option Addr} {sl14 : Array (Option Value)} {oc14 kV14 dc14 pm14 cd14 ct14 : Value}
    (a14 : PySem.W.nsIn K mainGlobals "put" = some (some (.ref f14))) (l14 : K.lookup f14 = some ⟨oc14, od14, .func (PySem.W.fnOf "put" "put" (defArgs s_p_put) (defBody s_p_put) (defScope s_p_put) .none kV14 dc14 pm14 an14 cd14 ct14), sl14⟩) (c14 : PySem.W.codeIn K cd14 "put" = true) (k14 : PySem.W.keepIn K (.ref f14) = true)
    {od15 an15 : Option Addr} {sl15 : Array (Option Value)} {oc15 kV15 dc15 pm15 cd15 ct15 : Value}
    (a15 : PySem.W.nsIn K mainGlobals "bytes_ahead_of_sum" = some (some (.ref f15))) (l15 : K.lookup f15 = some ⟨oc15, od15, .func (PySem.W.fnOf "bytes_ahead_of_sum" "bytes_ahead_of_sum" (defArgs s_p_bytes_ahead_of_sum) (defBody s_p_bytes_ahead_of_sum) (defScope s_p_bytes_ahead_of_sum) .none kV15 dc15 pm15 an15 cd15 ct15), sl15⟩) (c15 : PySem.W.codeIn K cd15 "bytes_ahead_of_sum" = true) (k15 : PySem.W.keepIn K (.ref f15) = true)
    {od16 an16 : Option Addr} {sl16 : Array (Option Value)} {oc16 kV16 dc16 pm16 cd16 ct16 : Value}
    (a16 : PySem.W.nsIn K mainGlobals "byte_of_head" = some (some (.ref f16))) (l16 : K.lookup f16 = some ⟨oc16, od16, .func (PySem.W.fnOf "byte_of_head" "byte_of_head" (defArgs s_p_byte_of_head) (defBody s_p_byte_of_head) (defScope s_p_byte_of_head) .none kV16 dc16 pm16 an16 cd16 ct16), sl16⟩) (c16 : PySem.W.codeIn K cd16 "byte_of_head" = true) (k16 : PySem.W.keepIn K (.ref f16) = true)
    {od17 an17 : Option Addr} {sl17 : Array (Option Value)} {oc17 kV17 dc17 pm17 cd17 ct17 : Value}
    (a17 : PySem.W.nsIn K mainGlobals "bytes_of_most" = some (some (.ref f17))) (l17 : K.lookup f17 = some ⟨oc17, od17, .func (PySem.W.fnOf "bytes_of_most" "bytes_of_most" (defArgs s_p_bytes_of_most) (defBody s_p_bytes_of_most) (defScope s_p_bytes_of_most) .none kV17 dc17 pm17 an17 cd17 ct17), sl17⟩) (c17 : PySem.W.codeIn K cd17 "bytes_of_most" = true) (k17 : PySem.W.keepIn K (.ref f17) = true)
    {od18 an18 : Option Addr} {sl18 : Array (Option Value)} {oc18 kV18 dc18 pm18 cd18 ct18 : Value}
    (a18 : PySem.W.nsIn K mainGlobals "two_bytes" = some (some (.ref f18))) (l18 : K.lookup f18 = some ⟨oc18, od18, .func (PySem.W.fnOf "two_bytes" "two_bytes" (defArgs s_p_two_bytes) (defBody s_p_two_bytes) (defScope s_p_two_bytes) .none kV18 dc18 pm18 an18 cd18 ct18), sl18⟩) (c18 : PySem.W.codeIn K cd18 "two_bytes" = true) (k18 : PySem.W.keepIn K (.ref f18) = true)
    {od19 an19 : Option Addr} {sl19 : Array (Option Value)} {oc19 kV19 dc19 pm19 cd19 ct19 : Value}
    (a19 : PySem.W.nsIn K mainGlobals "four_bytes" = some (some (.ref f19))) (l19 : K.lookup f19 = some ⟨oc19, od19, .func (PySem.W.fnOf "four_bytes" "four_bytes" (defArgs s_p_four_bytes) (defBody s_p_four_bytes) (defScope s_p_four_bytes) .none kV19 dc19 pm19 an19 cd19 ct19), sl19⟩) (c19 : PySem.W.codeIn K cd19 "four_bytes" = true) (k19 : PySem.W.keepIn K (.ref f19) = true)
    {od20 an20 : Option Addr} {sl20 : Array (Option Value)} {oc20 kV20 dc20 pm20 cd20 ct20 : Value}
    (a20 : PySem.W.nsIn K mainGlobals "is_right" = some (some (.ref f20))) (l20 : K.lookup f20 = some ⟨oc20, od20, .func (PySem.W.fnOf "is_right" "is_right" (defArgs s_p_is_right) (defBody s_p_is_right) (defScope s_p_is_right) .none kV20 dc20 pm20 an20 cd20 ct20), sl20⟩) (c20 : PySem.W.codeIn K cd20 "is_right" = true) (k20 : PySem.W.keepIn K (.ref f20) = true)
    {od21 an21 : Option Addr} {sl21 : Array (Option Value)} {oc21 kV21 dc21 pm21 cd21 ct21 : Value}
    (a21 : PySem.W.nsIn K mainGlobals "head_of" = some (some (.ref f21))) (l21 : K.lookup f21 = some ⟨oc21, od21, .func (PySem.W.fnOf "head_of" "head_of" (defArgs s_p_head_of) (defBody s_p_head_of) (defScope s_p_head_of) .none kV21 dc21 pm21 an21 cd21 ct21), sl21⟩) (c21 : PySem.W.codeIn K cd21 "head_of" = true) (k21 : PySem.W.keepIn K (.ref f21) = true)
    {od22 an22 : Option Addr} {sl22 : Array (Option Value)} {oc22 kV22 dc22 pm22 cd22 ct22 : Value}
    (a22 : PySem.W.nsIn K mainGlobals "is_right_long_head" = some (some (.ref f22))) (l22 : K.lookup f22 = some ⟨oc22, od22, .func (PySem.W.fnOf "is_right_long_head" "is_right_long_head" (defArgs s_p_is_right_long_head) (defBody s_p_is_right_long_head) (defScope s_p_is_right_long_head) .none kV22 dc22 pm22 an22 cd22 ct22), sl22⟩) (c22 : PySem.W.codeIn K cd22 "is_right_long_head" = true) (k22 : PySem.W.keepIn K (.ref f22) = true)
    {od23 an23 : Option Addr} {sl23 : Array (Option Value)} {oc23 kV23 dc23 pm23 cd23 ct23 : Value}
    (a23 : PySem.W.nsIn K mainGlobals "get" = some (some (.ref f23))) (l23 : K.lookup f23 = some ⟨oc23, od23, .func (PySem.W.fnOf "get" "get" (defArgs s_p_get) (defBody s_p_get) (defScope s_p_get) .none kV23 dc23 pm23 an23 cd23 ct23), sl23⟩) (c23 : PySem.W.codeIn K cd23 "get" = true) (k23 : PySem.W.keepIn K (.ref f23) = true)
    {od24 an24 : Option Addr} {sl24 : Array (Option Value)} {oc24 kV24 dc24 pm24 cd24 ct24 : Value}
    (a24 : PySem.W.nsIn K mainGlobals "two_at" = some (some (.ref f24))) (l24 : K.lookup f24 = some ⟨oc24, od24, .func (PySem.W.fnOf "two_at" "two_at" (defArgs s_p_two_at) (defBody s_p_two_at) (defScope s_p_two_at) .none kV24 dc24 pm24 an24 cd24 ct24), sl24⟩) (c24 : PySem.W.codeIn K cd24 "two_at" = true) (k24 : PySem.W.keepIn K (.ref f24) = true)
    {od25 an25 : Option Addr} {sl25 : Array (Option Value)} {oc25 kV25 dc25 pm25 cd25 ct25 : Value}
    (a25 : PySem.W.nsIn K mainGlobals "four_at" = some (some (.ref f25))) (l25 : K.lookup f25 = some ⟨oc25, od25, .func (PySem.W.fnOf "four_at" "four_at" (defArgs s_p_four_at) (defBody s_p_four_at) (defScope s_p_four_at) .none kV25 dc25 pm25 an25 cd25 ct25), sl25⟩) (c25 : PySem.W.codeIn K cd25 "four_at" = true) (k25 : PySem.W.keepIn K (.ref f25) = true)
    {od26 an26 : Option Addr} {sl26 : Array (Option Value)} {oc26 kV26 dc26 pm26 cd26 ct26 : Value}
    (a26 : PySem.W.nsIn K mainGlobals "reset_for" = some (some (.ref f26))) (l26 : K.lookup f26 = some ⟨oc26, od26, .func (PySem.W.fnOf "reset_for" "reset_for" (defArgs s_p_reset_for) (defBody s_p_reset_for) (defScope s_p_reset_for) .none kV26 dc26 pm26 an26 cd26 ct26), sl26⟩) (c26 : PySem.W.codeIn K cd26 "reset_for" = true) (k26 : PySem.W.keepIn K (.ref f26) = true)
    {od27 an27 : Option Addr} {sl27 : Array (Option Value)} {oc27 kV27 dc27 pm27 cd27 ct27 : Value}
    (a27 : PySem.W.nsIn K mainGlobals "owe_reset_for" = some (some (.ref f27))) (l27 : K.lookup f27 = some ⟨oc27, od27, .func (PySem.W.fnOf "owe_reset_for" "owe_reset_for" (defArgs s_p_owe_reset_for) (defBody s_p_owe_reset_for) (defScope s_p_owe_reset_for) .none kV27 dc27 pm27 an27 cd27 ct27), sl27⟩) (c27 : PySem.W.codeIn K cd27 "owe_reset_for" = true) (k27 : PySem.W.keepIn K (.ref f27) = true)
    {od28 an28 : Option Addr} {sl28 : Array (Option Value)} {oc28 kV28 dc28 pm28 cd28 ct28 : Value}
    (a28 : PySem.W.nsIn K mainGlobals "come_to_closed" = some (some (.ref f28))) (l28 : K.lookup f28 = some ⟨oc28, od28, .func (PySem.W.fnOf "come_to_closed" "come_to_closed" (defArgs s_p_come_to_closed) (defBody s_p_come_to_closed) (defScope s_p_come_to_closed) .none kV28 dc28 pm28 an28 cd28 ct28), sl28⟩) (c28 : PySem.W.codeIn K cd28 "come_to_closed" = true) (k28 : PySem.W.keepIn K (.ref f28) = true)
    {od29 an29 : Option Addr} {sl29 : Array (Option Value)} {oc29 kV29 dc29 pm29 cd29 ct29 : Value}
    (a29 : PySem.W.nsIn K mainGlobals "come_to_listen" = some (some (.ref f29))) (l29 : K.lookup f29 = some ⟨oc29, od29, .func (PySem.W.fnOf "come_to_listen" "come_to_listen" (defArgs s_p_come_to_listen) (defBody s_p_come_to_listen) (defScope s_p_come_to_listen) .none kV29 dc29 pm29 an29 cd29 ct29), sl29⟩) (c29 : PySem.W.codeIn K cd29 "come_to_listen" = true) (k29 : PySem.W.keepIn K (.ref f29) = true)
    {od30 an30 : Option Addr} {sl30 : Array (Option Value)} {oc30 kV30 dc30 pm30 cd30 ct30 : Value}
    (a30 : PySem.W.nsIn K mainGlobals "hear_syn" = some (some (.ref f30))) (l30 : K.lookup f30 = some ⟨oc30, od30, .func (PySem.W.fnOf "hear_syn" "hear_syn" (defArgs s_p_hear_syn) (defBody s_p_hear_syn) (defScope s_p_hear_syn) .none kV30 dc30 pm30 an30 cd30 ct30), sl30⟩) (c30 : PySem.W.codeIn K cd30 "hear_syn" = true) (k30 : PySem.W.keepIn K (.ref f30) = true)
    {od31 an31 : Option Addr} {sl31 : Array (Option Value)} {oc31 kV31 dc31 pm31 cd31 ct31 : Value}
    (a31 : PySem.W.nsIn K mainGlobals "come_to_syn_sent" = some (some (.ref f31))) (l31 : K.lookup f31 = some ⟨oc31, od31, .func (PySem.W.fnOf "come_to_syn_sent" "come_to_syn_sent" (defArgs s_p_come_to_syn_sent) (defBody s_p_come_to_syn_sent) (defScope s_p_come_to_syn_sent) .none kV31 dc31 pm31 an31 cd31 ct31), sl31⟩) (c31 : PySem.W.codeIn K cd31 "come_to_syn_sent" = true) (k31 : PySem.W.keepIn K (.ref f31) = true)
    {od32 an32 : Option Addr} {sl32 : Array (Option Value)} {oc32 kV32 dc32 pm32 cd32 ct32 : Value}
    (a32 : PySem.W.nsIn K mainGlobals "answers_syn" = some (some (.ref f32))) (l32 : K.lookup f32 = some ⟨oc32, od32, .func (PySem.W.fnOf "answers_syn" "answers_syn" (defArgs s_p_answers_syn) (defBody s_p_answers_syn) (defScope s_p_answers_syn) .none kV32 dc32 pm32 an32 cd32 ct32), sl32⟩) (c32 : PySem.W.codeIn K cd32 "answers_syn" = true) (k32 : PySem.W.keepIn K (.ref f32) = true)
    {od33 an33 : Option Addr} {sl33 : Array (Option Value)} {oc33 kV33 dc33 pm33 cd33 ct33 : Value}
    (a33 : PySem.W.nsIn K mainGlobals "refuse" = some (some (.ref f33))) (l33 : K.lookup f33 = some ⟨oc33, od33, .func (PySem.W.fnOf "refuse" "refuse" (defArgs s_p_refuse) (defBody s_p_refuse) (defScope s_p_refuse) .none kV33 dc33 pm33 an33 cd33 ct33), sl33⟩) (c33 : PySem.W.codeIn K cd33 "refuse" = true) (k33 : PySem.W.keepIn K (.ref f33) = true)
    {od34 an34 : Option Addr} {sl34 : Array (Option Value)} {oc34 kV34 dc34 pm34 cd34 ct34 : Value}
    (a34 : PySem.W.nsIn K mainGlobals "go_on_from_syn_sent" = some (some (.ref f34))) (l34 : K.lookup f34 = some ⟨oc34, od34, .func (PySem.W.fnOf "go_on_from_syn_sent" "go_on_from_syn_sent" (defArgs s_p_go_on_from_syn_sent) (defBody s_p_go_on_from_syn_sent) (defScope s_p_go_on_from_syn_sent) .none kV34 dc34 pm34 an34 cd34 ct34), sl34⟩) (c34 : PySem.W.codeIn K cd34 "go_on_from_syn_sent" = true) (k34 : PySem.W.keepIn K (.ref f34) = true)
    {od35 an35 : Option Addr} {sl35 : Array (Option Value)} {oc35 kV35 dc35 pm35 cd35 ct35 : Value}
    (a35 : PySem.W.nsIn K mainGlobals "arrive" = some (some (.ref f35))) (l35 : K.lookup f35 = some ⟨oc35, od35, .func (PySem.W.fnOf "arrive" "arrive" (defArgs s_p_arrive) (defBody s_p_arrive) (defScope s_p_arrive) .none kV35 dc35 pm35 an35 cd35 ct35), sl35⟩) (c35 : PySem.W.codeIn K cd35 "arrive" = true) (k35 : PySem.W.keepIn K (.ref f35) = true)
    {od36 an36 : Option Addr} {sl36 : Array (Option Value)} {oc36 kV36 dc36 pm36 cd36 ct36 : Value}
    (a36 : PySem.W.nsIn K mainGlobals "is_for" = some (some (.ref f36))) (l36 : K.lookup f36 = some ⟨oc36, od36, .func (PySem.W.fnOf "is_for" "is_for" (defArgs s_p_is_for) (defBody s_p_is_for) (defScope s_p_is_for) .none kV36 dc36 pm36 an36 cd36 ct36), sl36⟩) (c36 : PySem.W.codeIn K cd36 "is_for" = true) (k36 : PySem.W.keepIn K (.ref f36) = true)
    {od37 an37 : Option Addr} {sl37 : Array (Option Value)} {oc37 kV37 dc37 pm37 cd37 ct37 : Value}
    (a37 : PySem.W.nsIn K mainGlobals "come_to_stream" = some (some (.ref f37))) (l37 : K.lookup f37 = some ⟨oc37, od37, .func (PySem.W.fnOf "come_to_stream" "come_to_stream" (defArgs s_p_come_to_stream) (defBody s_p_come_to_stream) (defScope s_p_come_to_stream) .none kV37 dc37 pm37 an37 cd37 ct37), sl37⟩) (c37 : PySem.W.codeIn K cd37 "come_to_stream" = true) (k37 : PySem.W.keepIn K (.ref f37) = true)
    {od38 an38 : Option Addr} {sl38 : Array (Option Value)} {oc38 kV38 dc38 pm38 cd38 ct38 : Value}
    (a38 : PySem.W.nsIn K mainGlobals "opened" = some (some (.ref f38))) (l38 : K.lookup f38 = some ⟨oc38, od38, .func (PySem.W.fnOf "opened" "opened" (defArgs s_p_opened) (defBody s_p_opened) (defScope s_p_opened) .none kV38 dc38 pm38 an38 cd38 ct38), sl38⟩) (c38 : PySem.W.codeIn K cd38 "opened" = true) (k38 : PySem.W.keepIn K (.ref f38) = true)
    {od39 an39 : Option Addr} {sl39 : Array (Option Value)} {oc39 kV39 dc39 pm39 cd39 ct39 : Value}
    (a39 : PySem.W.nsIn K mainGlobals "close" = some (some (.ref f39))) (l39 : K.lookup f39 = some ⟨oc39, od39, .func (PySem.W.fnOf "close" "close" (defArgs s_p_close) (defBody s_p_close) (defScope s_p_close) .none kV39 dc39 pm39 an39 cd39 ct39), sl39⟩) (c39 : PySem.W.codeIn K cd39 "close" = true) (k39 : PySem.W.keepIn K (.ref f39) = true)
    {od40 an40 : Option Addr} {sl40 : Array (Option Value)} {oc40 kV40 dc40 pm40 cd40 ct40 : Value}
    (a40 : PySem.W.nsIn K mainGlobals "abort" = some (some (.ref f40))) (l40 : K.lookup f40 = some ⟨oc40, od40, .func (PySem.W.fnOf "abort" "abort" (defArgs s_p_abort) (defBody s_p_abort) (defScope s_p_abort) .none kV40 dc40 pm40 an40 cd40 ct40), sl40⟩) (c40 : PySem.W.codeIn K cd40 "abort" = true) (k40 : PySem.W.keepIn K (.ref f40) = true)
    {od41 an41 : Option Addr} {sl41 : Array (Option Value)} {oc41 kV41 dc41 pm41 cd41 ct41 : Value}
    (a41 : PySem.W.nsIn K mainGlobals "send" = some (some (.ref f41))) (l41 : K.lookup f41 = some ⟨oc41, od41, .func (PySem.W.fnOf "send" "send" (defArgs s_p_send) (defBody s_p_send) (defScope s_p_send) .none kV41 dc41 pm41 an41 cd41 ct41), sl41⟩) (c41 : PySem.W.codeIn K cd41 "send" = true) (k41 : PySem.W.keepIn K (.ref f41) = true)
    {od42 an42 : Option Addr} {sl42 : Array (Option Value)} {oc42 kV42 dc42 pm42 cd42 ct42 : Value}
    (a42 : PySem.W.nsIn K mainGlobals "going" = some (some (.ref f42))) (l42 : K.lookup f42 = some ⟨oc42, od42, .func (PySem.W.fnOf "going" "going" (defArgs s_p_going) (defBody s_p_going) (defScope s_p_going) .none kV42 dc42 pm42 an42 cd42 ct42), sl42⟩) (c42 : PySem.W.codeIn K cd42 "going" = true) (k42 : PySem.W.keepIn K (.ref f42) = true)
    {od43 an43 : Option Addr} {sl43 : Array (Option Value)} {oc43 kV43 dc43 pm43 cd43 ct43 : Value}
    (a43 : PySem.W.nsIn K mainGlobals "paid_reset" = some (some (.ref f43))) (l43 : K.lookup f43 = some ⟨oc43, od43, .func (PySem.W.fnOf "paid_reset" "paid_reset" (defArgs s_p_paid_reset) (defBody s_p_paid_reset) (defScope s_p_paid_reset) .none kV43 dc43 pm43 an43 cd43 ct43), sl43⟩) (c43 : PySem.W.codeIn K cd43 "paid_reset" = true) (k43 : PySem.W.keepIn K (.ref f43) = true)
    {od44 an44 : Option Addr} {sl44 : Array (Option Value)} {oc44 kV44 dc44 pm44 cd44 ct44 : Value}
    (a44 : PySem.W.nsIn K mainGlobals "is_due" = some (some (.ref f44))) (l44 : K.lookup f44 = some ⟨oc44, od44, .func (PySem.W.fnOf "is_due" "is_due" (defArgs s_p_is_due) (defBody s_p_is_due) (defScope s_p_is_due) .none kV44 dc44 pm44 an44 cd44 ct44), sl44⟩) (c44 : PySem.W.codeIn K cd44 "is_due" = true) (k44 : PySem.W.keepIn K (.ref f44) = true)
    {od45 an45 : Option Addr} {sl45 : Array (Option Value)} {oc45 kV45 dc45 pm45 cd45 ct45 : Value}
    (a45 : PySem.W.nsIn K mainGlobals "again" = some (some (.ref f45))) (l45 : K.lookup f45 = some ⟨oc45, od45, .func (PySem.W.fnOf "again" "again" (defArgs s_p_again) (defBody s_p_again) (defScope s_p_again) .none kV45 dc45 pm45 an45 cd45 ct45), sl45⟩) (c45 : PySem.W.codeIn K cd45 "again" = true) (k45 : PySem.W.keepIn K (.ref f45) = true)
    {od46 an46 : Option Addr} {sl46 : Array (Option Value)} {oc46 kV46 dc46 pm46 cd46 ct46 : Value}
    (a46 : PySem.W.nsIn K mainGlobals "most_at_once" = some (some (.ref f46))) (l46 : K.lookup f46 = some ⟨oc46, od46, .func (PySem.W.fnOf "most_at_once" "most_at_once" (defArgs s_p_most_at_once) (defBody s_p_most_at_once) (defScope s_p_most_at_once) .none kV46 dc46 pm46 an46 cd46 ct46), sl46⟩) (c46 : PySem.W.codeIn K cd46 "most_at_once" = true) (k46 : PySem.W.keepIn K (.ref f46) = true)
    {od47 an47 : Option Addr} {sl47 : Array (Option Value)} {oc47 kV47 dc47 pm47 cd47 ct47 : Value}
    (a47 : PySem.W.nsIn K mainGlobals "paid_syn" = some (some (.ref f47))) (l47 : K.lookup f47 = some ⟨oc47, od47, .func (PySem.W.fnOf "paid_syn" "paid_syn" (defArgs s_p_paid_syn) (defBody s_p_paid_syn) (defScope s_p_paid_syn) .none kV47 dc47 pm47 an47 cd47 ct47), sl47⟩) (c47 : PySem.W.codeIn K cd47 "paid_syn" = true) (k47 : PySem.W.keepIn K (.ref f47) = true)
    {od48 an48 : Option Addr} {sl48 : Array (Option Value)} {oc48 kV48 dc48 pm48 cd48 ct48 : Value}
    (a48 : PySem.W.nsIn K mainGlobals "segment_of" = some (some (.ref f48))) (l48 : K.lookup f48 = some ⟨oc48, od48, .func (PySem.W.fnOf "segment_of" "segment_of" (defArgs s_p_segment_of) (defBody s_p_segment_of) (defScope s_p_segment_of) .none kV48 dc48 pm48 an48 cd48 ct48), sl48⟩) (c48 : PySem.W.codeIn K cd48 "segment_of" = true) (k48 : PySem.W.keepIn K (.ref f48) = true)
    {od49 an49 : Option Addr} {sl49 : Array (Option Value)} {oc49 kV49 dc49 pm49 cd49 ct49 : Value}
    (a49 : PySem.W.nsIn K mainGlobals "going_as_new" = some (some (.ref f49))) (l49 : K.lookup f49 = some ⟨oc49, od49, .func (PySem.W.fnOf "going_as_new" "going_as_new" (defArgs s_p_going_as_new) (defBody s_p_going_as_new) (defScope s_p_going_as_new) .none kV49 dc49 pm49 an49 cd49 ct49), sl49⟩) (c49 : PySem.W.codeIn K cd49 "going_as_new" = true) (k49 : PySem.W.keepIn K (.ref f49) = true)
    {od50 an50 : Option Addr} {sl50 : Array (Option Value)} {oc50 kV50 dc50 pm50 cd50 ct50 : Value}
    (a50 : PySem.W.nsIn K mainGlobals "new_syn" = some (some (.ref f50))) (l50 : K.lookup f50 = some ⟨oc50, od50, .func (PySem.W.fnOf "new_syn" "new_syn" (defArgs s_p_new_syn) (defBody s_p_new_syn) (defScope s_p_new_syn) .none kV50 dc50 pm50 an50 cd50 ct50), sl50⟩) (c50 : PySem.W.codeIn K cd50 "new_syn" = true) (k50 : PySem.W.keepIn K (.ref f50) = true)
    {od51 an51 : Option Addr} {sl51 : Array (Option Value)} {oc51 kV51 dc51 pm51 cd51 ct51 : Value}
    (a51 : PySem.W.nsIn K mainGlobals "has_more" = some (some (.ref f51))) (l51 : K.lookup f51 = some ⟨oc51, od51, .func (PySem.W.fnOf "has_more" "has_more" (defArgs s_p_has_more) (defBody s_p_has_more) (defScope s_p_has_more) .none kV51 dc51 pm51 an51 cd51 ct51), sl51⟩) (c51 : PySem.W.codeIn K cd51 "has_more" = true) (k51 : PySem.W.keepIn K (.ref f51) = true)
    {od52 an52 : Option Addr} {sl52 : Array (Option Value)} {oc52 kV52 dc52 pm52 cd52 ct52 : Value}
    (a52 : PySem.W.nsIn K mainGlobals "has_new_data" = some (some (.ref f52))) (l52 : K.lookup f52 = some ⟨oc52, od52, .func (PySem.W.fnOf "has_new_data" "has_new_data" (defArgs s_p_has_new_data) (defBody s_p_has_new_data) (defScope s_p_has_new_data) .none kV52 dc52 pm52 an52 cd52 ct52), sl52⟩) (c52 : PySem.W.codeIn K cd52 "has_new_data" = true) (k52 : PySem.W.keepIn K (.ref f52) = true)
    {od53 an53 : Option Addr} {sl53 : Array (Option Value)} {oc53 kV53 dc53 pm53 cd53 ct53 : Value}
    (a53 : PySem.W.nsIn K mainGlobals "unsent" = some (some (.ref f53))) (l53 : K.lookup f53 = some ⟨oc53, od53, .func (PySem.W.fnOf "unsent" "unsent" (defArgs s_p_unsent) (defBody s_p_unsent) (defScope s_p_unsent) .none kV53 dc53 pm53 an53 cd53 ct53), sl53⟩) (c53 : PySem.W.codeIn K cd53 "unsent" = true) (k53 : PySem.W.keepIn K (.ref f53) = true)
    {od54 an54 : Option Addr} {sl54 : Array (Option Value)} {oc54 kV54 dc54 pm54 cd54 ct54 : Value}
    (a54 : PySem.W.nsIn K mainGlobals "has_new_fin" = some (some (.ref f54))) (l54 : K.lookup f54 = some ⟨oc54, od54, .func (PySem.W.fnOf "has_new_fin" "has_new_fin" (defArgs s_p_has_new_fin) (defBody s_p_has_new_fin) (defScope s_p_has_new_fin) .none kV54 dc54 pm54 an54 cd54 ct54), sl54⟩) (c54 : PySem.W.codeIn K cd54 "has_new_fin" = true) (k54 : PySem.W.keepIn K (.ref f54) = true)
    {od55 an55 : Option Addr} {sl55 : Array (Option Value)} {oc55 kV55 dc55 pm55 cd55 ct55 : Value}
    (a55 : PySem.W.nsIn K mainGlobals "new_piece" = some (some (.ref f55))) (l55 : K.lookup f55 = some ⟨oc55, od55, .func (PySem.W.fnOf "new_piece" "new_piece" (defArgs s_p_new_piece) (defBody s_p_new_piece) (defScope s_p_new_piece) .none kV55 dc55 pm55 an55 cd55 ct55), sl55⟩) (c55 : PySem.W.codeIn K cd55 "new_piece" = true) (k55 : PySem.W.keepIn K (.ref f55) = true)
    {od56 an56 : Option Addr} {sl56 : Array (Option Value)} {oc56 kV56 dc56 pm56 cd56 ct56 : Value}
    (a56 : PySem.W.nsIn K mainGlobals "new_data" = some (some (.ref f56))) (l56 : K.lookup f56 = some ⟨oc56, od56, .func (PySem.W.fnOf "new_data" "new_data" (defArgs s_p_new_data) (defBody s_p_new_data) (defScope s_p_new_data) .none kV56 dc56 pm56 an56 cd56 ct56), sl56⟩) (c56 : PySem.W.codeIn K cd56 "new_data" = true) (k56 : PySem.W.keepIn K (.ref f56) = true)
    {od57 an57 : Option Addr} {sl57 : Array (Option Value)} {oc57 kV57 dc57 pm57 cd57 ct57 : Value}
    (a57 : PySem.W.nsIn K mainGlobals "new_fin" = some (some (.ref f57))) (l57 : K.lookup f57 = some ⟨oc57, od57, .func (PySem.W.fnOf "new_fin" "new_fin" (defArgs s_p_new_fin) (defBody s_p_new_fin) (defScope s_p_new_fin) .none kV57 dc57 pm57 an57 cd57 ct57), sl57⟩) (c57 : PySem.W.codeIn K cd57 "new_fin" = true) (k57 : PySem.W.keepIn K (.ref f57) = true)
    {od58 an58 : Option Addr} {sl58 : Array (Option Value)} {oc58 kV58 dc58 pm58 cd58 ct58 : Value}
    (a58 : PySem.W.nsIn K mainGlobals "going_as_probe" = some (some (.ref f58))) (l58 : K.lookup f58 = some ⟨oc58, od58, .func (PySem.W.fnOf "going_as_probe" "going_as_probe" (defArgs s_p_going_as_probe) (defBody s_p_going_as_probe) (defScope s_p_going_as_probe) .none kV58 dc58 pm58 an58 cd58 ct58), sl58⟩) (c58 : PySem.W.codeIn K cd58 "going_as_probe" = true) (k58 : PySem.W.keepIn K (.ref f58) = true)
    {od59 an59 : Option Addr} {sl59 : Array (Option Value)} {oc59 kV59 dc59 pm59 cd59 ct59 : Value}
    (a59 : PySem.W.nsIn K mainGlobals "going_as_answer" = some (some (.ref f59))) (l59 : K.lookup f59 = some ⟨oc59, od59, .func (PySem.W.fnOf "going_as_answer" "going_as_answer" (defArgs s_p_going_as_answer) (defBody s_p_going_as_answer) (defScope s_p_going_as_answer) .none kV59 dc59 pm59 an59 cd59 ct59), sl59⟩) (c59 : PySem.W.codeIn K cd59 "going_as_answer" = true) (k59 : PySem.W.keepIn K (.ref f59) = true)
    {od60 an60 : Option Addr} {sl60 : Array (Option Value)} {oc60 kV60 dc60 pm60 cd60 ct60 : Value}
    (a60 : PySem.W.nsIn K mainGlobals "_law_cell" = some (some (.ref f60))) (l60 : K.lookup f60 = some ⟨oc60, od60, .func (PySem.W.fnOf "_law_cell" "_law_cell" (defArgs s_l_cell) (defBody s_l_cell) (defScope s_l_cell) .none kV60 dc60 pm60 an60 cd60 ct60), sl60⟩) (c60 : PySem.W.codeIn K cd60 "_law_cell" = true) (k60 : PySem.W.keepIn K (.ref f60) = true)
    {od61 an61 : Option Addr} {sl61 : Array (Option Value)} {oc61 kV61 dc61 pm61 cd61 ct61 : Value}
    (a61 : PySem.W.nsIn K mainGlobals "_law_mix" = some (some (.ref f61))) (l61 : K.lookup f61 = some ⟨oc61, od61, .func (PySem.W.fnOf "_law_mix" "_law_mix" (defArgs s_l_mix) (defBody s_l_mix) (defScope s_l_mix) .none kV61 dc61 pm61 an61 cd61 ct61), sl61⟩) (c61 : PySem.W.codeIn K cd61 "_law_mix" = true) (k61 : PySem.W.keepIn K (.ref f61) = true)
    {od62 an62 : Option Addr} {sl62 : Array (Option Value)} {oc62 kV62 dc62 pm62 cd62 ct62 : Value}
    (a62 : PySem.W.nsIn K mainGlobals "_law_two" = some (some (.ref f62))) (l62 : K.lookup f62 = some ⟨oc62, od62, .func (PySem.W.fnOf "_law_two" "_law_two" (defArgs s_l_two) (defBody s_l_two) (defScope s_l_two) .none kV62 dc62 pm62 an62 cd62 ct62), sl62⟩) (c62 : PySem.W.codeIn K cd62 "_law_two" = true) (k62 : PySem.W.keepIn K (.ref f62) = true)
    {od63 an63 : Option Addr} {sl63 : Array (Option Value)} {oc63 kV63 dc63 pm63 cd63 ct63 : Value}
    (a63 : PySem.W.nsIn K mainGlobals "_law_folded" = some (some (.ref f63))) (l63 : K.lookup f63 = some ⟨oc63, od63, .func (PySem.W.fnOf "_law_folded" "_law_folded" (defArgs s_l_folded) (defBody s_l_folded) (defScope s_l_folded) .none kV63 dc63 pm63 an63 cd63 ct63), sl63⟩) (c63 : PySem.W.codeIn K cd63 "_law_folded" = true) (k63 : PySem.W.keepIn K (.ref f63) = true)
    {od64 an64 : Option Addr} {sl64 : Array (Option Value)} {oc64 kV64 dc64 pm64 cd64 ct64 : Value}
    (a64 : PySem.W.nsIn K mainGlobals "_law_bytes" = some (some (.ref f64))) (l64 : K.lookup f64 = some ⟨oc64, od64, .func (PySem.W.fnOf "_law_bytes" "_law_bytes" (defArgs s_l_bytes) (defBody s_l_bytes) (defScope s_l_bytes) .none kV64 dc64 pm64 an64 cd64 ct64), sl64⟩) (c64 : PySem.W.codeIn K cd64 "_law_bytes" = true) (k64 : PySem.W.keepIn K (.ref f64) = true)
    {od65 an65 : Option Addr} {sl65 : Array (Option Value)} {oc65 kV65 dc65 pm65 cd65 ct65 : Value}
    (a65 : PySem.W.nsIn K mainGlobals "_law_any" = some (some (.ref f65))) (l65 : K.lookup f65 = some ⟨oc65, od65, .func (PySem.W.fnOf "_law_any" "_law_any" (defArgs s_l_any) (defBody s_l_any) (defScope s_l_any) .none kV65 dc65 pm65 an65 cd65 ct65), sl65⟩) (c65 : PySem.W.codeIn K cd65 "_law_any" = true) (k65 : PySem.W.keepIn K (.ref f65) = true)
    {od66 an66 : Option Addr} {sl66 : Array (Option Value)} {oc66 kV66 dc66 pm66 cd66 ct66 : Value}
    (a66 : PySem.W.nsIn K mainGlobals "_law_plus" = some (some (.ref f66))) (l66 : K.lookup f66 = some ⟨oc66, od66, .func (PySem.W.fnOf "_law_plus" "_law_plus" (defArgs s_l_plus) (defBody s_l_plus) (defScope s_l_plus) .none kV66 dc66 pm66 an66 cd66 ct66), sl66⟩) (c66 : PySem.W.codeIn K cd66 "_law_plus" = true) (k66 : PySem.W.keepIn K (.ref f66) = true)
    {od67 an67 : Option Addr} {sl67 : Array (Option Value)} {oc67 kV67 dc67 pm67 cd67 ct67 : Value}
    (a67 : PySem.W.nsIn K mainGlobals "law" = some (some (.ref f67))) (l67 : K.lookup f67 = some ⟨oc67, od67, .func (PySem.W.fnOf "law" "law" (defArgs s_l_law) (defBody s_l_law) (defScope s_l_law) .none kV67 dc67 pm67 an67 cd67 ct67), sl67⟩) (c67 : PySem.W.codeIn K cd67 "law" = true) (k67 : PySem.W.keepIn K (.ref f67) = true)
    (pg_End : PySem.W.plainGet K C_End Str.empty = true) (hd_End : PySem.W.hasDictIn K C_End = true) (po_End : PySem.W.plainOver K C_End = true) (sa_End : PySem.W.findIn K (.ref C_End) "__setattr__" = some (some (.builtin "object.__setattr__"))) (mk_End : PySem.W.makesIn K C_End = true) (kc_End : PySem.W.keepIn K (.ref C_End) = true)
    (pg_Pile : PySem.W.plainGet K C_Pile Str.empty = true) (hd_Pile : PySem.W.hasDictIn K C_Pile = true) (po_Pile : PySem.W.plainOver K C_Pile = true) (sa_Pile : PySem.W.findIn K (.ref C_Pile) "__setattr__" = some (some (.builtin "object.__setattr__"))) (mk_Pile : PySem.W.makesIn K C_Pile = true) (kc_Pile : PySem.W.keepIn K (.ref C_Pile) = true)
    (nA_End_behind : PySem.W.findIn K (.ref C_End) "behind" = some none)
    (nA_End_come : PySem.W.findIn K (.ref C_End) "come" = some none)
    (nA_End_early : PySem.W.findIn K (.ref C_End) "early" = some none)
    (nA_End_early_fin : PySem.W.findIn K (.ref C_End) "early_fin" = some none)
    (nA_End_error : PySem.W.findIn K (.ref C_End) "error" = some none)
    (nA_End_first : PySem.W.findIn K (.ref C_End) "first" = some none)
    (nA_End_has_closed : PySem.W.findIn K (.ref C_End) "has_closed" = some none)
    (nA_End_most : PySem.W.findIn K (.ref C_End) "most" = some none)
    (nA_End_nxt : PySem.W.findIn K (.ref C_End) "nxt" = some none)
    (nA_End_ours : PySem.W.findIn K (.ref C_End) "ours" = some none)
    (nA_End_owed_reset : PySem.W.findIn K (.ref C_End) "owed_reset" = some none)
    (nA_End_owes_answer : PySem.W.findIn K (.ref C_End) "owes_answer" = some none)
    (nA_End_owes_syn : PySem.W.findIn K (.ref C_End) "owes_syn" = some none)
    (nA_End_probes : PySem.W.findIn K (.ref C_End) "probes" = some none)
    (nA_End_rcv : PySem.W.findIn K (.ref C_End) "rcv" = some none)
    (nA_End_since : PySem.W.findIn K (.ref C_End) "since" = some none)
    (nA_End_state : PySem.W.findIn K (.ref C_End) "state" = some none)
    (nA_End_theirs : PySem.W.findIn K (.ref C_End) "theirs" = some none)
    (nA_End_told : PySem.W.findIn K (.ref C_End) "told" = some none)
    (nA_End_told_by : PySem.W.findIn K (.ref C_End) "told_by" = some none)
    (nA_End_tries : PySem.W.findIn K (.ref C_End) "tries" = some none)
    (nA_End_una : PySem.W.findIn K (.ref C_End) "una" = some none)
    (nA_End_wait : PySem.W.findIn K (.ref C_End) "wait" = some none)
    (nA_End_wnd : PySem.W.findIn K (.ref C_End) "wnd" = some none)
    (nA_End_written : PySem.W.findIn K (.ref C_End) "written" = some none)
    (nA_Pile_row : PySem.W.findIn K (.ref C_Pile) "row" = some none)
    (g_ACK : PySem.W.nsIn K mainGlobals "ACK" = some (some (.int 16 t_ACK)))
    (g_ANSWER : PySem.W.nsIn K mainGlobals "ANSWER" = some (some (.int 3 t_ANSWER)))
    (g_CLOSED : PySem.W.nsIn K mainGlobals "CLOSED" = some (some (.str "closed" t_CLOSED)))
    (g_CLOSE_WAIT : PySem.W.nsIn K mainGlobals "CLOSE_WAIT" = some (some (.str "close wait" t_CLOSE_WAIT)))
    (g_CLOSING : PySem.W.nsIn K mainGlobals "CLOSING" = some (some (.str "closing" t_CLOSING)))
    (g_DATA : PySem.W.nsIn K mainGlobals "DATA" = some (some (.int 7 t_DATA)))
    (g_FIN : PySem.W.nsIn K mainGlobals "FIN" = some (some (.int 1 t_FIN)))
    (g_FIRST_WAIT : PySem.W.nsIn K mainGlobals "FIRST_WAIT" = some (some (.int 1000 t_FIRST_WAIT)))
    (g_FLAGS : PySem.W.nsIn K mainGlobals "FLAGS" = some (some (.int 4 t_FLAGS)))
    (g_GOAL : PySem.W.nsIn K mainGlobals "GOAL" = some (some (.int 1 t_GOAL)))
    (g_GREATEST_DATA : PySem.W.nsIn K mainGlobals "GREATEST_DATA" = some (some (.int 16 t_GREATEST_DATA)))
    (g_GREATEST_FLAGS : PySem.W.nsIn K mainGlobals "GREATEST_FLAGS" = some (some (.int 31 t_GREATEST_FLAGS)))
    (g_GREATEST_WORD : PySem.W.nsIn K mainGlobals "GREATEST_WORD" = some (some (.int 65535 t_GREATEST_WORD)))
    (g_HALF_ROUND : PySem.W.nsIn K mainGlobals "HALF_ROUND" = some (some (.int 2147483648 t_HALF_ROUND)))
    (g_LAST_ACK : PySem.W.nsIn K mainGlobals "LAST_ACK" = some (some (.str "last ack" t_LAST_ACK)))
    (g_LAST_WAIT : PySem.W.nsIn K mainGlobals "LAST_WAIT" = some (some (.int 120000 t_LAST_WAIT)))
    (g_LEAST_MOST : PySem.W.nsIn K mainGlobals "LEAST_MOST" = some (some (.int 4 t_LEAST_MOST)))
    (g_LISTEN : PySem.W.nsIn K mainGlobals "LISTEN" = some (some (.str "listen" t_LISTEN)))
    (g_LONGEST_WAIT : PySem.W.nsIn K mainGlobals "LONGEST_WAIT" = some (some (.int 16000 t_LONGEST_WAIT)))
    (g_LONG_HEAD : PySem.W.nsIn K mainGlobals "LONG_HEAD" = some (some (.int 24 t_LONG_HEAD)))
    (g_MOST : PySem.W.nsIn K mainGlobals "MOST" = some (some (.int 6 t_MOST)))
    (g_MOST_TRIES : PySem.W.nsIn K mainGlobals "MOST_TRIES" = some (some (.int 6 t_MOST_TRIES)))
    (g_MOST_UNTOLD : PySem.W.nsIn K mainGlobals "MOST_UNTOLD" = some (some (.int 12 t_MOST_UNTOLD)))
    (g_NO_ERROR : PySem.W.nsIn K mainGlobals "NO_ERROR" = some (some (.str "" t_NO_ERROR)))
    (g_NUMBER : PySem.W.nsIn K mainGlobals "NUMBER" = some (some (.int 2 t_NUMBER)))
    (g_OPEN : PySem.W.nsIn K mainGlobals "OPEN" = some (some (.str "open" t_OPEN)))
    (g_PSH : PySem.W.nsIn K mainGlobals "PSH" = some (some (.int 8 t_PSH)))
    (g_REFUSED : PySem.W.nsIn K mainGlobals "REFUSED" = some (some (.str "refused" t_REFUSED)))
    (g_RIGHT_SUM : PySem.W.nsIn K mainGlobals "RIGHT_SUM" = some (some (.int 65535 t_RIGHT_SUM)))
    (g_ROOM : PySem.W.nsIn K mainGlobals "ROOM" = some (some (.int 64 t_ROOM)))
    (g_ROUND : PySem.W.nsIn K mainGlobals "ROUND" = some (some (.int 4294967296 t_ROUND)))
    (g_RST : PySem.W.nsIn K mainGlobals "RST" = some (some (.int 4 t_RST)))
    (g_SHORT_HEAD : PySem.W.nsIn K mainGlobals "SHORT_HEAD" = some (some (.int 20 t_SHORT_HEAD)))
    (g_SOURCE : PySem.W.nsIn K mainGlobals "SOURCE" = some (some (.int 0 t_SOURCE)))
    (g_SYN : PySem.W.nsIn K mainGlobals "SYN" = some (some (.int 2 t_SYN)))
    (g_SYN_COME : PySem.W.nsIn K mainGlobals "SYN_COME" = some (some (.str "syn come" t_SYN_COME)))
    (g_SYN_SENT : PySem.W.nsIn K mainGlobals "SYN_SENT" = some (some (.str "syn sent" t_SYN_SENT)))
    (g_TIME : PySem.W.nsIn K mainGlobals "TIME" = some (some (.str "time" t_TIME)))
    (g_TIME_WAIT : PySem.W.nsIn K mainGlobals "TIME_WAIT" = some (some (.str "time wait" t_TIME_WAIT)))
    (g_WAIT_ONE : PySem.W.nsIn K mainGlobals "WAIT_ONE" = some (some (.str "wait one" t_WAIT_ONE)))
    (g_WINDOW : PySem.W.nsIn K mainGlobals "WINDOW" = some (some (.int 5 t_WINDOW)))
    (g_WORDS : PySem.W.nsIn K mainGlobals "WORDS" = some (some (.int 65536 t_WORDS)))
    (z_bool : PySem.W.nsIn K mainGlobals "bool" = some none)
    (z_int : PySem.W.nsIn K mainGlobals "int" = some none)
    (z_isinstance : PySem.W.nsIn K mainGlobals "isinstance" = some none)
    (z_len : PySem.W.nsIn K mainGlobals "len" = some none)
    (z_list : PySem.W.nsIn K mainGlobals "list" = some none)
    (z_min : PySem.W.nsIn K mainGlobals "min" = some none)
    (z_range : PySem.W.nsIn K mainGlobals "range" = some none)
    (z_sum : PySem.W.nsIn K mainGlobals "sum" = some none)
    (z_tuple : PySem.W.nsIn K mainGlobals "tuple" = some none) :
    ∃ fd : FuncData, (∀ (s : Shared) (v : Value), BindsTo s fd ⟨[v], []⟩ [("_law_script", v)]) ∧ ∀ base : Heap, K.In base → base.Ns mainGlobals mg → FnOk l.prog w K mg base CX0 9 fa fd ["_law_script"] (spLaw K) := by
  have e := hfa.symm.trans (PySem.W.mg_of X G a67)
  cases e
  have eC_End : C_End = clOf mg "End" := (clOf_eq (PySem.W.mg_of X G aC_End)).symm
  have eC_Pile : C_Pile = clOf mg "Pile" := (clOf_eq (PySem.W.mg_of X G aC_Pile)).symm
  subst eC_End
  subst eC_Pile
  have g : Glb K mg := ⟨⟨_, PySem.W.mg_of X G g_ACK⟩, ⟨_, PySem.W.mg_of X G g_ANSWER⟩, ⟨_, PySem.W.mg_of X G g_CLOSED⟩, ⟨_, PySem.W.mg_of X G g_CLOSE_WAIT⟩, ⟨_, PySem.W.mg_of X G g_CLOSING⟩, ⟨_, PySem.W.mg_of X G g_DATA⟩, ⟨_, PySem.W.mg_of X G g_FIN⟩, ⟨_, PySem.W.mg_of X G g_FIRST_WAIT⟩, ⟨_, PySem.W.mg_of X G g_FLAGS⟩, ⟨_, PySem.W.mg_of X G g_GOAL⟩, ⟨_, PySem.W.mg_of X G g_GREATEST_DATA⟩, ⟨_, PySem.W.mg_of X G g_GREATEST_FLAGS⟩, ⟨_, PySem.W.mg_of X G g_GREATEST_WORD⟩, ⟨_, PySem.W.mg_of X G g_HALF_ROUND⟩, ⟨_, PySem.W.mg_of X G g_LAST_ACK⟩, ⟨_, PySem.W.mg_of X G g_LAST_WAIT⟩, ⟨_, PySem.W.mg_of X G g_LEAST_MOST⟩, ⟨_, PySem.W.mg_of X G g_LISTEN⟩, ⟨_, PySem.W.mg_of X G g_LONGEST_WAIT⟩, ⟨_, PySem.W.mg_of X G g_LONG_HEAD⟩, ⟨_, PySem.W.mg_of X G g_MOST⟩, ⟨_, PySem.W.mg_of X G g_MOST_TRIES⟩, ⟨_, PySem.W.mg_of X G g_MOST_UNTOLD⟩, ⟨_, PySem.W.mg_of X G g_NO_ERROR⟩, ⟨_, PySem.W.mg_of X G g_NUMBER⟩, ⟨_, PySem.W.mg_of X G g_OPEN⟩, ⟨_, PySem.W.mg_of X G g_PSH⟩, ⟨_, PySem.W.mg_of X G g_REFUSED⟩, ⟨_, PySem.W.mg_of X G g_RIGHT_SUM⟩, ⟨_, PySem.W.mg_of X G g_ROOM⟩, ⟨_, PySem.W.mg_of X G g_ROUND⟩, ⟨_, PySem.W.mg_of X G g_RST⟩, ⟨_, PySem.W.mg_of X G g_SHORT_HEAD⟩, ⟨_, PySem.W.mg_of X G g_SOURCE⟩, ⟨_, PySem.W.mg_of X G g_SYN⟩, ⟨_, PySem.W.mg_of X G g_SYN_COME⟩, ⟨_, PySem.W.mg_of X G g_SYN_SENT⟩, ⟨_, PySem.W.mg_of X G g_TIME⟩, ⟨_, PySem.W.mg_of X G g_TIME_WAIT⟩, ⟨_, PySem.W.mg_of X G g_WAIT_ONE⟩, ⟨_, PySem.W.mg_of X G g_WINDOW⟩, ⟨_, PySem.W.mg_of X G g_WORDS⟩, PySem.W.mg_none_of X G z_bool, PySem.W.mg_none_of X G z_int, PySem.W.mg_none_of X G z_isinstance, PySem.W.mg_none_of X G z_len, PySem.W.mg_none_of X G z_list, PySem.W.mg_none_of X G z_min, PySem.W.mg_none_of X G z_range, PySem.W.mg_none_of X G z_sum, PySem.W.mg_none_of X G z_tuple, ⟨pg_End, hd_End, po_End, sa_End⟩, ⟨pg_Pile, hd_Pile, po_Pile, sa_Pile⟩, nA_End_behind, nA_End_come, nA_End_early, nA_End_early_fin, nA_End_error, nA_End_first, nA_End_has_closed, nA_End_most, nA_End_nxt, nA_End_ours, nA_End_owed_reset, nA_End_owes_answer, nA_End_owes_syn, nA_End_probes, nA_End_rcv, nA_End_since, nA_End_state, nA_End_theirs, nA_End_told, nA_End_told_by, nA_End_tries, nA_End_una, nA_End_wait, nA_End_wnd, nA_End_written, nA_Pile_row⟩
  have F0 := fun_mk (st := s_p_Pile_init) l0 c0 k0
  have b0 := F0.binds (ps := P_p_Pile_init) fun _ _ _ _ _ _ us hl => match us, hl with | [_], _ => rfl
  have D0 : Mk0 K mg "Pile" "Pile.__init__" s_p_Pile_init P_p_Pile_init := ⟨_, _, F0, b0, ⟨mk_Pile, a0, i0, kc_Pile⟩, PySem.W.mg_of X G aC_Pile⟩
  have F1 := fun_mk (st := s_p_room) l1 c1 k1
  have b1 := F1.binds (ps := P_p_room) fun _ _ _ _ _ _ us hl => match us, hl with | [_], _ => rfl
  have D1 : Def0 K mg "room" s_p_room P_p_room := ⟨_, _, F1, b1, PySem.W.mg_of X G a1⟩
  have F2 := fun_mk (st := s_p_plus) l2 c2 k2
  have b2 := F2.binds (ps := P_p_plus) fun _ _ _ _ _ _ us hl => match us, hl with | [_, _], _ => rfl
  have D2 : Def0 K mg "plus" s_p_plus P_p_plus := ⟨_, _, F2, b2, PySem.W.mg_of X G a2⟩
  have F3 := fun_mk (st := s_p_offset) l3 c3 k3
  have b3 := F3.binds (ps := P_p_offset) fun _ _ _ _ _ _ us hl => match us, hl with | [_, _], _ => rfl
  have D3 : Def0 K mg "offset" s_p_offset P_p_offset := ⟨_, _, F3, b3, PySem.W.mg_of X G a3⟩
  have F4 := fun_mk (st := s_p_End_init) l4 c4 k4
  have b4 := F4.binds (ps := P_p_End_init) fun _ _ _ _ _ _ us hl => match us, hl with | [_, _, _, _, _], _ => rfl
  have D4 : Mk0 K mg "End" "End.__init__" s_p_End_init P_p_End_init := ⟨_, _, F4, b4, ⟨mk_End, a4, i4, kc_End⟩, PySem.W.mg_of X G aC_End⟩
  have F5 := fun_mk (st := s_p_start_timer) l5 c5 k5
  have b5 := F5.binds (ps := P_p_start_timer) fun _ _ _ _ _ _ us hl => match us, hl with | [_, _], _ => rfl
  have D5 : Def0 K mg "start_timer" s_p_start_timer P_p_start_timer := ⟨_, _, F5, b5, PySem.W.mg_of X G a5⟩
  have F6 := fun_mk (st := s_p_state) l6 c6 k6
  have b6 := F6.binds (ps := P_p_state) fun _ _ _ _ _ _ us hl => match us, hl with | [_], _ => rfl
  have D6 : Def0 K mg "state" s_p_state P_p_state := ⟨_, _, F6, b6, PySem.W.mg_of X G a6⟩
  have F7 := fun_mk (st := s_p_error) l7 c7 k7
  have b7 := F7.binds (ps := P_p_error) fun _ _ _ _ _ _ us hl => match us, hl with | [_], _ => rfl
  have D7 : Def0 K mg "error" s_p_error P_p_error := ⟨_, _, F7, b7, PySem.W.mg_of X G a7⟩
  have F8 := fun_mk (st := s_p_our_window) l8 c8 k8
  have b8 := F8.binds (ps := P_p_our_window) fun _ _ _ _ _ _ us hl => match us, hl with | [_], _ => rfl
  have D8 : Def0 K mg "our_window" s_p_our_window P_p_our_window := ⟨_, _, F8, b8, PySem.W.mg_of X G a8⟩
  have F9 := fun_mk (st := s_p_folded) l9 c9 k9
  have b9 := F9.binds (ps := P_p_folded) fun _ _ _ _ _ _ us hl => match us, hl with | [_], _ => rfl
  have D9 : Def0 K mg "folded" s_p_folded P_p_folded := ⟨_, _, F9, b9, PySem.W.mg_of X G a9⟩
  have F10 := fun_mk (st := s_p_sum_of) l10 c10 k10
  have b10 := F10.binds (ps := P_p_sum_of) fun _ _ _ _ _ _ us hl => match us, hl with | [_], _ => rfl
  have D10 : Def0 K mg "sum_of" s_p_sum_of P_p_sum_of := ⟨_, _, F10, b10, PySem.W.mg_of X G a10⟩
  have F11 := fun_mk (st := s_p_length) l11 c11 k11
  have b11 := F11.binds (ps := P_p_length) fun _ _ _ _ _ _ us hl => match us, hl with | [_], _ => rfl
  have D11 : Def0 K mg "length" s_p_length P_p_length := ⟨_, _, F11, b11, PySem.W.mg_of X G a11⟩
  have F12 := fun_mk (st := s_p_has) l12 c12 k12
  have b12 := F12.binds (ps := P_p_has) fun _ _ _ _ _ _ us hl => match us, hl with | [_, _], _ => rfl
  have D12 : Def0 K mg "has" s_p_has P_p_has := ⟨_, _, F12, b12, PySem.W.mg_of X G a12⟩
  have F13 := fun_mk (st := s_p_bears) l13 c13 k13
  have b13 := F13.binds (ps := P_p_bears) fun _ _ _ _ _ _ us hl => match us, hl with | [_, _], _ => rfl
  have D13 : Def0 K mg "bears" s_p_bears P_p_bears := ⟨_, _, F13, b13, PySem.W.mg_of X G a13⟩
  have F14 := fun_mk (st := s_p_put) l14 c14 k14
  have b14 := F14.binds (ps := P_p_put) fun _ _ _ _ _ _ us hl => match us, hl with | [_], _ => rfl
  have D14 : Def0 K mg "put" s_p_put P_p_put := ⟨_, _, F14, b14, PySem.W.mg_of X G a14⟩
  have F15 := fun_mk (st := s_p_bytes_ahead_of_sum) l15 c15 k15
  have b15 := F15.binds (ps := P_p_bytes_ahead_of_sum) fun _ _ _ _ _ _ us hl => match us, hl with | [_], _ => rfl
  have D15 : Def0 K mg "bytes_ahead_of_sum" s_p_bytes_ahead_of_sum P_p_bytes_ahead_of_sum := ⟨_, _, F15, b15, PySem.W.mg_of X G a15⟩
  have F16 := fun_mk (st := s_p_byte_of_head) l16 c16 k16
  have b16 := F16.binds (ps := P_p_byte_of_head) fun _ _ _ _ _ _ us hl => match us, hl with | [_], _ => rfl
  have D16 : Def0 K mg "byte_of_head" s_p_byte_of_head P_p_byte_of_head := ⟨_, _, F16, b16, PySem.W.mg_of X G a16⟩
  have F17 := fun_mk (st := s_p_bytes_of_most) l17 c17 k17
  have b17 := F17.binds (ps := P_p_bytes_of_most) fun _ _ _ _ _ _ us hl => match us, hl with | [_], _ => rfl
  have D17 : Def0 K mg "bytes_of_most" s_p_bytes_of_most P_p_bytes_of_most := ⟨_, _, F17, b17, PySem.W.mg_of X G a17⟩
  have F18 := fun_mk (st := s_p_two_bytes) l18 c18 k18
  have b18 := F18.binds (ps := P_p_two_bytes) fun _ _ _ _ _ _ us hl => match us, hl with | [_], _ => rfl
  have D18 : Def0 K mg "two_bytes" s_p_two_bytes P_p_two_bytes := ⟨_, _, F18, b18, PySem.W.mg_of X G a18⟩
  have F19 := fun_mk (st := s_p_four_bytes) l19 c19 k19
  have b19 := F19.binds (ps := P_p_four_bytes) fun _ _ _ _ _ _ us hl => match us, hl with | [_], _ => rfl
  have D19 : Def0 K mg "four_bytes" s_p_four_bytes P_p_four_bytes := ⟨_, _, F19, b19, PySem.W.mg_of X G a19⟩
  have F20 := fun_mk (st := s_p_is_right) l20 c20 k20
  have b20 := F20.binds (ps := P_p_is_right) fun _ _ _ _ _ _ us hl => match us, hl with | [_], _ => rfl
  have D20 : Def0 K mg "is_right" s_p_is_right P_p_is_right := ⟨_, _, F20, b20, PySem.W.mg_of X G a20⟩
  have F21 := fun_mk (st := s_p_head_of) l21 c21 k21
  have b21 := F21.binds (ps := P_p_head_of) fun _ _ _ _ _ _ us hl => match us, hl with | [_], _ => rfl
  have D21 : Def0 K mg "head_of" s_p_head_of P_p_head_of := ⟨_, _, F21, b21, PySem.W.mg_of X G a21⟩
  have F22 := fun_mk (st := s_p_is_right_long_head) l22 c22 k22
  have b22 := F22.binds (ps := P_p_is_right_long_head) fun _ _ _ _ _ _ us hl => match us, hl with | [_], _ => rfl
  have D22 : Def0 K mg "is_right_long_head" s_p_is_right_long_head P_p_is_right_long_head := ⟨_, _, F22, b22, PySem.W.mg_of X G a22⟩
  have F23 := fun_mk (st := s_p_get) l23 c23 k23
  have b23 := F23.binds (ps := P_p_get) fun _ _ _ _ _ _ us hl => match us, hl with | [_], _ => rfl
  have D23 : Def0 K mg "get" s_p_get P_p_get := ⟨_, _, F23, b23, PySem.W.mg_of X G a23⟩
  have F24 := fun_mk (st := s_p_two_at) l24 c24 k24
  have b24 := F24.binds (ps := P_p_two_at) fun _ _ _ _ _ _ us hl => match us, hl with | [_, _], _ => rfl
  have D24 : Def0 K mg "two_at" s_p_two_at P_p_two_at := ⟨_, _, F24, b24, PySem.W.mg_of X G a24⟩
  have F25 := fun_mk (st := s_p_four_at) l25 c25 k25
  have b25 := F25.binds (ps := P_p_four_at) fun _ _ _ _ _ _ us hl => match us, hl with | [_, _], _ => rfl
  have D25 : Def0 K mg "four_at" s_p_four_at P_p_four_at := ⟨_, _, F25, b25, PySem.W.mg_of X G a25⟩
  have F26 := fun_mk (st := s_p_reset_for) l26 c26 k26
  have b26 := F26.binds (ps := P_p_reset_for) fun _ _ _ _ _ _ us hl => match us, hl with | [_], _ => rfl
  have D26 : Def0 K mg "reset_for" s_p_reset_for P_p_reset_for := ⟨_, _, F26, b26, PySem.W.mg_of X G a26⟩
  have F27 := fun_mk (st := s_p_owe_reset_for) l27 c27 k27
  have b27 := F27.binds (ps := P_p_owe_reset_for) fun _ _ _ _ _ _ us hl => match us, hl with | [_, _], _ => rfl
  have D27 : Def0 K mg "owe_reset_for" s_p_owe_reset_for P_p_owe_reset_for := ⟨_, _, F27, b27, PySem.W.mg_of X G a27⟩
  have F28 := fun_mk (st := s_p_come_to_closed) l28 c28 k28
  have b28 := F28.binds (ps := P_p_come_to_closed) fun _ _ _ _ _ _ us hl => match us, hl with | [_, _], _ => rfl
  have D28 : Def0 K mg "come_to_closed" s_p_come_to_closed P_p_come_to_closed := ⟨_, _, F28, b28, PySem.W.mg_of X G a28⟩
  have F29 := fun_mk (st := s_p_come_to_listen) l29 c29 k29
  have b29 := F29.binds (ps := P_p_come_to_listen) fun _ _ _ _ _ _ us hl => match us, hl with | [_, _], _ => rfl
  have D29 : Def0 K mg "come_to_listen" s_p_come_to_listen P_p_come_to_listen := ⟨_, _, F29, b29, PySem.W.mg_of X G a29⟩
  have F30 := fun_mk (st := s_p_hear_syn) l30 c30 k30
  have b30 := F30.binds (ps := P_p_hear_syn) fun _ _ _ _ _ _ us hl => match us, hl with | [_, _], _ => rfl
  have D30 : Def0 K mg "hear_syn" s_p_hear_syn P_p_hear_syn := ⟨_, _, F30, b30, PySem.W.mg_of X G a30⟩
  have F31 := fun_mk (st := s_p_come_to_syn_sent) l31 c31 k31
  have b31 := F31.binds (ps := P_p_come_to_syn_sent) fun _ _ _ _ _ _ us hl => match us, hl with | [_, _, _], _ => rfl
  have D31 : Def0 K mg "come_to_syn_sent" s_p_come_to_syn_sent P_p_come_to_syn_sent := ⟨_, _, F31, b31, PySem.W.mg_of X G a31⟩
  have F32 := fun_mk (st := s_p_answers_syn) l32 c32 k32
  have b32 := F32.binds (ps := P_p_answers_syn) fun _ _ _ _ _ _ us hl => match us, hl with | [_, _], _ => rfl
  have D32 : Def0 K mg "answers_syn" s_p_answers_syn P_p_answers_syn := ⟨_, _, F32, b32, PySem.W.mg_of X G a32⟩
  have F33 := fun_mk (st := s_p_refuse) l33 c33 k33
  have b33 := F33.binds (ps := P_p_refuse) fun _ _ _ _ _ _ us hl => match us, hl with | [_, _], _ => rfl
  have D33 : Def0 K mg "refuse" s_p_refuse P_p_refuse := ⟨_, _, F33, b33, PySem.W.mg_of X G a33⟩
  have F34 := fun_mk (st := s_p_go_on_from_syn_sent) l34 c34 k34
  have b34 := F34.binds (ps := P_p_go_on_from_syn_sent) fun _ _ _ _ _ _ us hl => match us, hl with | [_, _, _], _ => rfl
  have D34 : Def0 K mg "go_on_from_syn_sent" s_p_go_on_from_syn_sent P_p_go_on_from_syn_sent := ⟨_, _, F34, b34, PySem.W.mg_of X G a34⟩
  have F35 := fun_mk (st := s_p_arrive) l35 c35 k35
  have b35 := F35.binds (ps := P_p_arrive) fun _ _ _ _ _ _ us hl => match us, hl with | [_, _, _], _ => rfl
  have D35 : Def0 K mg "arrive" s_p_arrive P_p_arrive := ⟨_, _, F35, b35, PySem.W.mg_of X G a35⟩
  have F36 := fun_mk (st := s_p_is_for) l36 c36 k36
  have b36 := F36.binds (ps := P_p_is_for) fun _ _ _ _ _ _ us hl => match us, hl with | [_, _], _ => rfl
  have D36 : Def0 K mg "is_for" s_p_is_for P_p_is_for := ⟨_, _, F36, b36, PySem.W.mg_of X G a36⟩
  have F37 := fun_mk (st := s_p_come_to_stream) l37 c37 k37
  have b37 := F37.binds (ps := P_p_come_to_stream) fun _ _ _ _ _ _ us hl => match us, hl with | [_, _, _], _ => rfl
  have D37 : Def0 K mg "come_to_stream" s_p_come_to_stream P_p_come_to_stream := ⟨_, _, F37, b37, PySem.W.mg_of X G a37⟩
  have F38 := fun_mk (st := s_p_opened) l38 c38 k38
  have b38 := F38.binds (ps := P_p_opened) fun _ _ _ _ _ _ us hl => match us, hl with | [_, _, _, _], _ => rfl
  have D38 : Def0 K mg "opened" s_p_opened P_p_opened := ⟨_, _, F38, b38, PySem.W.mg_of X G a38⟩
  have F39 := fun_mk (st := s_p_close) l39 c39 k39
  have b39 := F39.binds (ps := P_p_close) fun _ _ _ _ _ _ us hl => match us, hl with | [_], _ => rfl
  have D39 : Def0 K mg "close" s_p_close P_p_close := ⟨_, _, F39, b39, PySem.W.mg_of X G a39⟩
  have F40 := fun_mk (st := s_p_abort) l40 c40 k40
  have b40 := F40.binds (ps := P_p_abort) fun _ _ _ _ _ _ us hl => match us, hl with | [_], _ => rfl
  have D40 : Def0 K mg "abort" s_p_abort P_p_abort := ⟨_, _, F40, b40, PySem.W.mg_of X G a40⟩
  have F41 := fun_mk (st := s_p_send) l41 c41 k41
  have b41 := F41.binds (ps := P_p_send) fun _ _ _ _ _ _ us hl => match us, hl with | [_, _], _ => rfl
  have D41 : Def0 K mg "send" s_p_send P_p_send := ⟨_, _, F41, b41, PySem.W.mg_of X G a41⟩
  have F42 := fun_mk (st := s_p_going) l42 c42 k42
  have b42 := F42.binds (ps := P_p_going) fun _ _ _ _ _ _ us hl => match us, hl with | [_, _], _ => rfl
  have D42 : Def0 K mg "going" s_p_going P_p_going := ⟨_, _, F42, b42, PySem.W.mg_of X G a42⟩
  have F43 := fun_mk (st := s_p_paid_reset) l43 c43 k43
  have b43 := F43.binds (ps := P_p_paid_reset) fun _ _ _ _ _ _ us hl => match us, hl with | [_], _ => rfl
  have D43 : Def0 K mg "paid_reset" s_p_paid_reset P_p_paid_reset := ⟨_, _, F43, b43, PySem.W.mg_of X G a43⟩
  have F44 := fun_mk (st := s_p_is_due) l44 c44 k44
  have b44 := F44.binds (ps := P_p_is_due) fun _ _ _ _ _ _ us hl => match us, hl with | [_, _], _ => rfl
  have D44 : Def0 K mg "is_due" s_p_is_due P_p_is_due := ⟨_, _, F44, b44, PySem.W.mg_of X G a44⟩
  have F45 := fun_mk (st := s_p_again) l45 c45 k45
  have b45 := F45.binds (ps := P_p_again) fun _ _ _ _ _ _ us hl => match us, hl with | [_, _], _ => rfl
  have D45 : Def0 K mg "again" s_p_again P_p_again := ⟨_, _, F45, b45, PySem.W.mg_of X G a45⟩
  have F46 := fun_mk (st := s_p_most_at_once) l46 c46 k46
  have b46 := F46.binds (ps := P_p_most_at_once) fun _ _ _ _ _ _ us hl => match us, hl with | [_], _ => rfl
  have D46 : Def0 K mg "most_at_once" s_p_most_at_once P_p_most_at_once := ⟨_, _, F46, b46, PySem.W.mg_of X G a46⟩
  have F47 := fun_mk (st := s_p_paid_syn) l47 c47 k47
  have b47 := F47.binds (ps := P_p_paid_syn) fun _ _ _ _ _ _ us hl => match us, hl with | [_], _ => rfl
  have D47 : Def0 K mg "paid_syn" s_p_paid_syn P_p_paid_syn := ⟨_, _, F47, b47, PySem.W.mg_of X G a47⟩
  have F48 := fun_mk (st := s_p_segment_of) l48 c48 k48
  have b48 := F48.binds (ps := P_p_segment_of) fun _ _ _ _ _ _ us hl => match us, hl with | [_, _, _, _], _ => rfl
  have D48 : Def0 K mg "segment_of" s_p_segment_of P_p_segment_of := ⟨_, _, F48, b48, PySem.W.mg_of X G a48⟩
  have F49 := fun_mk (st := s_p_going_as_new) l49 c49 k49
  have b49 := F49.binds (ps := P_p_going_as_new) fun _ _ _ _ _ _ us hl => match us, hl with | [_, _], _ => rfl
  have D49 : Def0 K mg "going_as_new" s_p_going_as_new P_p_going_as_new := ⟨_, _, F49, b49, PySem.W.mg_of X G a49⟩
  have F50 := fun_mk (st := s_p_new_syn) l50 c50 k50
  have b50 := F50.binds (ps := P_p_new_syn) fun _ _ _ _ _ _ us hl => match us, hl with | [_, _], _ => rfl
  have D50 : Def0 K mg "new_syn" s_p_new_syn P_p_new_syn := ⟨_, _, F50, b50, PySem.W.mg_of X G a50⟩
  have F51 := fun_mk (st := s_p_has_more) l51 c51 k51
  have b51 := F51.binds (ps := P_p_has_more) fun _ _ _ _ _ _ us hl => match us, hl with | [_], _ => rfl
  have D51 : Def0 K mg "has_more" s_p_has_more P_p_has_more := ⟨_, _, F51, b51, PySem.W.mg_of X G a51⟩
  have F52 := fun_mk (st := s_p_has_new_data) l52 c52 k52
  have b52 := F52.binds (ps := P_p_has_new_data) fun _ _ _ _ _ _ us hl => match us, hl with | [_], _ => rfl
  have D52 : Def0 K mg "has_new_data" s_p_has_new_data P_p_has_new_data := ⟨_, _, F52, b52, PySem.W.mg_of X G a52⟩
  have F53 := fun_mk (st := s_p_unsent) l53 c53 k53
  have b53 := F53.binds (ps := P_p_unsent) fun _ _ _ _ _ _ us hl => match us, hl with | [_], _ => rfl
  have D53 : Def0 K mg "unsent" s_p_unsent P_p_unsent := ⟨_, _, F53, b53, PySem.W.mg_of X G a53⟩
  have F54 := fun_mk (st := s_p_has_new_fin) l54 c54 k54
  have b54 := F54.binds (ps := P_p_has_new_fin) fun _ _ _ _ _ _ us hl => match us, hl with | [_], _ => rfl
  have D54 : Def0 K mg "has_new_fin" s_p_has_new_fin P_p_has_new_fin := ⟨_, _, F54, b54, PySem.W.mg_of X G a54⟩
  have F55 := fun_mk (st := s_p_new_piece) l55 c55 k55
  have b55 := F55.binds (ps := P_p_new_piece) fun _ _ _ _ _ _ us hl => match us, hl with | [_, _], _ => rfl
  have D55 : Def0 K mg "new_piece" s_p_new_piece P_p_new_piece := ⟨_, _, F55, b55, PySem.W.mg_of X G a55⟩
  have F56 := fun_mk (st := s_p_new_data) l56 c56 k56
  have b56 := F56.binds (ps := P_p_new_data) fun _ _ _ _ _ _ us hl => match us, hl with | [_, _], _ => rfl
  have D56 : Def0 K mg "new_data" s_p_new_data P_p_new_data := ⟨_, _, F56, b56, PySem.W.mg_of X G a56⟩
  have F57 := fun_mk (st := s_p_new_fin) l57 c57 k57
  have b57 := F57.binds (ps := P_p_new_fin) fun _ _ _ _ _ _ us hl => match us, hl with | [_], _ => rfl
  have D57 : Def0 K mg "new_fin" s_p_new_fin P_p_new_fin := ⟨_, _, F57, b57, PySem.W.mg_of X G a57⟩
  have F58 := fun_mk (st := s_p_going_as_probe) l58 c58 k58
  have b58 := F58.binds (ps := P_p_going_as_probe) fun _ _ _ _ _ _ us hl => match us, hl with | [_, _], _ => rfl
  have D58 : Def0 K mg "going_as_probe" s_p_going_as_probe P_p_going_as_probe := ⟨_, _, F58, b58, PySem.W.mg_of X G a58⟩
  have F59 := fun_mk (st := s_p_going_as_answer) l59 c59 k59
  have b59 := F59.binds (ps := P_p_going_as_answer) fun _ _ _ _ _ _ us hl => match us, hl with | [_], _ => rfl
  have D59 : Def0 K mg "going_as_answer" s_p_going_as_answer P_p_going_as_answer := ⟨_, _, F59, b59, PySem.W.mg_of X G a59⟩
  have F60 := fun_mk (st := s_l_cell) l60 c60 k60
  have b60 := F60.binds (ps := P_l_cell) fun _ _ _ _ _ _ us hl => match us, hl with | [_, _], _ => rfl
  have D60 : Def0 K mg "_law_cell" s_l_cell P_l_cell := ⟨_, _, F60, b60, PySem.W.mg_of X G a60⟩
  have F61 := fun_mk (st := s_l_mix) l61 c61 k61
  have b61 := F61.binds (ps := P_l_mix) fun _ _ _ _ _ _ us hl => match us, hl with | [_, _], _ => rfl
  have D61 : Def0 K mg "_law_mix" s_l_mix P_l_mix := ⟨_, _, F61, b61, PySem.W.mg_of X G a61⟩
  have F62 := fun_mk (st := s_l_two) l62 c62 k62
  have b62 := F62.binds (ps := P_l_two) fun _ _ _ _ _ _ us hl => match us, hl with | [_], _ => rfl
  have D62 : Def0 K mg "_law_two" s_l_two P_l_two := ⟨_, _, F62, b62, PySem.W.mg_of X G a62⟩
  have F63 := fun_mk (st := s_l_folded) l63 c63 k63
  have b63 := F63.binds (ps := P_l_folded) fun _ _ _ _ _ _ us hl => match us, hl with | [_], _ => rfl
  have D63 : Def0 K mg "_law_folded" s_l_folded P_l_folded := ⟨_, _, F63, b63, PySem.W.mg_of X G a63⟩
  have F64 := fun_mk (st := s_l_bytes) l64 c64 k64
  have b64 := F64.binds (ps := P_l_bytes) fun _ _ _ _ _ _ us hl => match us, hl with | [_], _ => rfl
  have D64 : Def0 K mg "_law_bytes" s_l_bytes P_l_bytes := ⟨_, _, F64, b64, PySem.W.mg_of X G a64⟩
  have F65 := fun_mk (st := s_l_any) l65 c65 k65
  have b65 := F65.binds (ps := P_l_any) fun _ _ _ _ _ _ us hl => match us, hl with | [_, _], _ => rfl
  have D65 : Def0 K mg "_law_any" s_l_any P_l_any := ⟨_, _, F65, b65, PySem.W.mg_of X G a65⟩
  have F66 := fun_mk (st := s_l_plus) l66 c66 k66
  have b66 := F66.binds (ps := P_l_plus) fun _ _ _ _ _ _ us hl => match us, hl with | [_, _], _ => rfl
  have D66 : Def0 K mg "_law_plus" s_l_plus P_l_plus := ⟨_, _, F66, b66, PySem.W.mg_of X G a66⟩
  have F67 := fun_mk (st := s_l_law) l67 c67 k67
  have b67 := F67.binds (ps := P_l_law) fun _ _ _ _ _ _ us hl => match us, hl with | [_], _ => rfl
  have D67 : Def0 K mg "law" s_l_law P_l_law := ⟨_, _, F67, b67, PySem.W.mg_of X G a67⟩
  refine ⟨PySem.W.fnOf "law" "law" (defArgs s_l_law) (defBody s_l_law) (defScope s_l_law) .none kV67 dc67 pm67 an67 cd67 ct67, fun s v => .of_eq rfl, fun base _ _ => ?_⟩
  exact law_imp law_true (ok_all F67 D0 D1 D2 D3 D4 D5 D6 D7 D8 D9 D10 D11 D12 D13 D14 D15 D16 D17 D18 D19 D20 D21 D22 D23 D24 D25 D26 D27 D28 D29 D30 D31 D32 D33 D34 D35 D36 D37 D38 D39 D40 D41 D42 D43 D44 D45 D46 D47 D48 D49 D50 D51 D52 D53 D54 D55 D56 D57 D58 D59 D60 D61 D62 D63 D64 D65 D66 g)
theorem walk {l : PySem.W.OpenLaw} {q : Program} {loose : List Str} {XP : (Str → Option Value) → Heap → Prop} {YP : World → Heap → Prop} {d : DefRec} {K : Params → PySem.W.Frag} (hn : l.most = some 63) (hdf : d.params.defaults = [])
    (hY : ∀ (w : World) (h : Heap), YP w h → (K w.params).In h)
    (F : ∀ (w : World) (mg : Str → Option Value) (fa : Addr) (h : Heap), (K w.params).In h → h.Ns mainGlobals mg → mg d.name = some (.ref fa) →
      ∃ fd : FuncData, (∀ (s : Shared) (u : Value), BindsTo s fd ⟨[u], []⟩ [("_law_script", u)]) ∧ ∀ base : Heap, (K w.params).In base → base.Ns mainGlobals mg → FnOk l.prog w (K w.params) mg base CX0 9 fa fd ["_law_script"] (spLaw (K w.params))) :
    PySem.W.WalkO q loose XP YP l.row.toRowW d [] (fun f vs => PySem.call f vs) :=
  L2.walk_of (n := 63) (k := 9) (x := "_law_script") (CX := fun _ => CX0) (sp := fun w => spLaw (K w.params)) hn (by decide) hdf ⟨rfl, by decide, by decide⟩ hY F (fun _ H a ns hl hO hS => ⟨a, ns, rfl, hO, hS, hl, fun _ => rfl⟩) fun _ _ _ _ _ z => z
end My
open PySem PySem.W PyProof.Rows
set_option maxRecDepth 100000 in
set_option maxHeartbeats 0 in
theorem PySem.Challenge.cw_wirestream_k12_closed_and_listening_holds : PySem.Challenge.rw_wirestream_k12_closed_and_listening.Holds := by
  w_on; o_law; k_head; (case hw => w_witness2)
  k_fill
  refine My.walk (l := PySem.Challenge.rw_wirestream_k12_closed_and_listening) rfl rfl (fun w h Y => PySem.W.kIn_of Y) ?F
  case F =>
    intro w mg fa h KX G hmg
    refine' My.all_mk KX G hmg ?aC_End ?aC_Pile ?a0 ?i0 ?l0 ?c0 ?k0 ?a1 ?l1 ?c1 ?k1 ?a2 ?l2 ?c2 ?k2 ?a3 ?l3 ?c3 ?k3 ?a4 ?i4 ?l4 ?c4 ?k4 ?a5 ?l5 ?c5 ?k5 ?a6 ?l6 ?c6 ?k6 ?a7 ?l7 ?c7 ?k7 ?a8 ?l8 ?c8 ?k8 ?a9 ?l9 ?c9 ?k9 ?a10 ?l10 ?c10 ?k10 ?a11 ?l11 ?c11 ?k11 ?a12 ?l12 ?c12 ?k12 ?a13 ?l13 ?c13 ?k13 ?a14 ?l14 ?c14 ?k14 ?a15 ?l15 ?c15 ?k15 ?a16 ?l16 ?c16 ?k16 ?a17 ?l17 ?c17 ?k17 ?a18 ?l18 ?c18 ?k18 ?a19 ?l19 ?c19 ?k19 ?a20 ?l20 ?c20 ?k20 ?a21 ?l21 ?c21 ?k21 ?a22 ?l22 ?c22 ?k22 ?a23 ?l23 ?c23 ?k23 ?a24 ?l24 ?c24 ?k24 ?a25 ?l25 ?c25 ?k25 ?a26 ?l26 ?c26 ?k26 ?a27 ?l27 ?c27 ?k27 ?a28 ?l28 ?c28 ?k28 ?a29 ?l29 ?c29 ?k29 ?a30 ?l30 ?c30 ?k30 ?a31 ?l31 ?c31 ?k31 ?a32 ?l32 ?c32 ?k32 ?a33 ?l33 ?c33 ?k33 ?a34 ?l34 ?c34 ?k34 ?a35 ?l35 ?c35 ?k35 ?a36 ?l36 ?c36 ?k36 ?a37 ?l37 ?c37 ?k37 ?a38 ?l38 ?c38 ?k38 ?a39 ?l39 ?c39 ?k39 ?a40 ?l40 ?c40 ?k40 ?a41 ?l41 ?c41 ?k41 ?a42 ?l42 ?c42 ?k42 ?a43 ?l43 ?c43 ?k43 ?a44 ?l44 ?c44 ?k44 ?a45 ?l45 ?c45 ?k45 ?a46 ?l46 ?c46 ?k46 ?a47 ?l47 ?c47 ?k47 ?a48 ?l48 ?c48 ?k48 ?a49 ?l49 ?c49 ?k49 ?a50 ?l50 ?c50 ?k50 ?a51 ?l51 ?c51 ?k51 ?a52 ?l52 ?c52 ?k52 ?a53 ?l53 ?c53 ?k53 ?a54 ?l54 ?c54 ?k54 ?a55 ?l55 ?c55 ?k55 ?a56 ?l56 ?c56 ?k56 ?a57 ?l57 ?c57 ?k57 ?a58 ?l58 ?c58 ?k58 ?a59 ?l59 ?c59 ?k59 ?a60 ?l60 ?c60 ?k60 ?a61 ?l61 ?c61 ?k61 ?a62 ?l62 ?c62 ?k62 ?a63 ?l63 ?c63 ?k63 ?a64 ?l64 ?c64 ?k64 ?a65 ?l65 ?c65 ?k65 ?a66 ?l66 ?c66 ?k66 ?a67 ?l67 ?c67 ?k67 ?pg_End ?hd_End ?po_End ?sa_End ?mk_End ?kc_End ?pg_Pile ?hd_Pile ?po_Pile ?sa_Pile ?mk_Pile ?kc_Pile ?nA_End_behind ?nA_End_come ?nA_End_early ?nA_End_early_fin ?nA_End_error ?nA_End_first ?nA_End_has_closed ?nA_End_most ?nA_End_nxt ?nA_End_ours ?nA_End_owed_reset ?nA_End_owes_answer ?nA_End_owes_syn ?nA_End_probes ?nA_End_rcv ?nA_End_since ?nA_End_state ?nA_End_theirs ?nA_End_told ?nA_End_told_by ?nA_End_tries ?nA_End_una ?nA_End_wait ?nA_End_wnd ?nA_End_written ?nA_Pile_row ?g_ACK ?g_ANSWER ?g_CLOSED ?g_CLOSE_WAIT ?g_CLOSING ?g_DATA ?g_FIN ?g_FIRST_WAIT ?g_FLAGS ?g_GOAL ?g_GREATEST_DATA ?g_GREATEST_FLAGS ?g_GREATEST_WORD ?g_HALF_ROUND ?g_LAST_ACK ?g_LAST_WAIT ?g_LEAST_MOST ?g_LISTEN ?g_LONGEST_WAIT ?g_LONG_HEAD ?g_MOST ?g_MOST_TRIES ?g_MOST_UNTOLD ?g_NO_ERROR ?g_NUMBER ?g_OPEN ?g_PSH ?g_REFUSED ?g_RIGHT_SUM ?g_ROOM ?g_ROUND ?g_RST ?g_SHORT_HEAD ?g_SOURCE ?g_SYN ?g_SYN_COME ?g_SYN_SENT ?g_TIME ?g_TIME_WAIT ?g_WAIT_ONE ?g_WINDOW ?g_WORDS ?z_bool ?z_int ?z_isinstance ?z_len ?z_list ?z_min ?z_range ?z_sum ?z_tuple
    (case aC_End => k_is)
    (case aC_Pile => k_is)
    (case a0 => k_is)
    (case i0 => k_is)
    (case l0 => k_is)
    (case c0 => k_is)
    (case k0 => k_is)
    (case a1 => k_is)
    (case l1 => k_is)
    (case c1 => k_is)
    (case k1 => k_is)
    (case a2 => k_is)
    (case l2 => k_is)
    (case c2 => k_is)
    (case k2 => k_is)
    (case a3 => k_is)
    (case l3 => k_is)
    (case c3 => k_is)
    (case k3 => k_is)
    (case a4 => k_is)
    (case i4 => k_is)
    (case l4 => k_is)
    (case c4 => k_is)
    (case k4 => k_is)
    (case a5 => k_is)
    (case l5 => k_is)
    (case c5 => k_is)
    (case k5 => k_is)
    (case a6 => k_is)
    (case l6 => k_is)
    (case c6 => k_is)
    (case k6 => k_is)
    (case a7 => k_is)
    (case l7 => k_is)
    (case c7 => k_is)
    (case k7 => k_is)
    (case a8 => k_is)
    (case l8 => k_is)
    (case c8 => k_is)
    (case k8 => k_is)
    (case a9 => k_is)
    (case l9 => k_is)
    (case c9 => k_is)
    (case k9 => k_is)
    (case a10 => k_is)
    (case l10 => k_is)
    (case c10 => k_is)
    (case k10 => k_is)
    (case a11 => k_is)
    (case l11 => k_is)
    (case c11 => k_is)
    (case k11 => k_is)
    (case a12 => k_is)
    (case l12 => k_is)
    (case c12 => k_is)
    (case k12 => k_is)
    (case a13 => k_is)
    (case l13 => k_is)
    (case c13 => k_is)
    (case k13 => k_is)
    (case a14 => k_is)
    (case l14 => k_is)
    (case c14 => k_is)
    (case k14 => k_is)
    (case a15 => k_is)
    (case l15 => k_is)
    (case c15 => k_is)
    (case k15 => k_is)
    (case a16 => k_is)
    (case l16 => k_is)
    (case c16 => k_is)
    (case k16 => k_is)
    (case a17 => k_is)
    (case l17 => k_is)
    (case c17 => k_is)
    (case k17 => k_is)
    (case a18 => k_is)
    (case l18 => k_is)
    (case c18 => k_is)
    (case k18 => k_is)
    (case a19 => k_is)
    (case l19 => k_is)
    (case c19 => k_is)
    (case k19 => k_is)
    (case a20 => k_is)
    (case l20 => k_is)
    (case c20 => k_is)
    (case k20 => k_is)
    (case a21 => k_is)
    (case l21 => k_is)
    (case c21 => k_is)
    (case k21 => k_is)
    (case a22 => k_is)
    (case l22 => k_is)
    (case c22 => k_is)
    (case k22 => k_is)
    (case a23 => k_is)
    (case l23 => k_is)
    (case c23 => k_is)
    (case k23 => k_is)
    (case a24 => k_is)
    (case l24 => k_is)
    (case c24 => k_is)
    (case k24 => k_is)
    (case a25 => k_is)
    (case l25 => k_is)
    (case c25 => k_is)
    (case k25 => k_is)
    (case a26 => k_is)
    (case l26 => k_is)
    (case c26 => k_is)
    (case k26 => k_is)
    (case a27 => k_is)
    (case l27 => k_is)
    (case c27 => k_is)
    (case k27 => k_is)
    (case a28 => k_is)
    (case l28 => k_is)
    (case c28 => k_is)
    (case k28 => k_is)
    (case a29 => k_is)
    (case l29 => k_is)
    (case c29 => k_is)
    (case k29 => k_is)
    (case a30 => k_is)
    (case l30 => k_is)
    (case c30 => k_is)
    (case k30 => k_is)
    (case a31 => k_is)
    (case l31 => k_is)
    (case c31 => k_is)
    (case k31 => k_is)
    (case a32 => k_is)
    (case l32 => k_is)
    (case c32 => k_is)
    (case k32 => k_is)
    (case a33 => k_is)
    (case l33 => k_is)
    (case c33 => k_is)
    (case k33 => k_is)
    (case a34 => k_is)
    (case l34 => k_is)
    (case c34 => k_is)
    (case k34 => k_is)
    (case a35 => k_is)
    (case l35 => k_is)
    (case c35 => k_is)
    (case k35 => k_is)
    (case a36 => k_is)
    (case l36 => k_is)
    (case c36 => k_is)
    (case k36 => k_is)
    (case a37 => k_is)
    (case l37 => k_is)
    (case c37 => k_is)
    (case k37 => k_is)
    (case a38 => k_is)
    (case l38 => k_is)
    (case c38 => k_is)
    (case k38 => k_is)
    (case a39 => k_is)
    (case l39 => k_is)
    (case c39 => k_is)
    (case k39 => k_is)
    (case a40 => k_is)
    (case l40 => k_is)
    (case c40 => k_is)
    (case k40 => k_is)
    (case a41 => k_is)
    (case l41 => k_is)
    (case c41 => k_is)
    (case k41 => k_is)
    (case a42 => k_is)
    (case l42 => k_is)
    (case c42 => k_is)
    (case k42 => k_is)
    (case a43 => k_is)
    (case l43 => k_is)
    (case c43 => k_is)
    (case k43 => k_is)
    (case a44 => k_is)
    (case l44 => k_is)
    (case c44 => k_is)
    (case k44 => k_is)
    (case a45 => k_is)
    (case l45 => k_is)
    (case c45 => k_is)
    (case k45 => k_is)
    (case a46 => k_is)
    (case l46 => k_is)
    (case c46 => k_is)
    (case k46 => k_is)
    (case a47 => k_is)
    (case l47 => k_is)
    (case c47 => k_is)
    (case k47 => k_is)
    (case a48 => k_is)
    (case l48 => k_is)
    (case c48 => k_is)
    (case k48 => k_is)
    (case a49 => k_is)
    (case l49 => k_is)
    (case c49 => k_is)
    (case k49 => k_is)
    (case a50 => k_is)
    (case l50 => k_is)
    (case c50 => k_is)
    (case k50 => k_is)
    (case a51 => k_is)
    (case l51 => k_is)
    (case c51 => k_is)
    (case k51 => k_is)
    (case a52 => k_is)
    (case l52 => k_is)
    (case c52 => k_is)
    (case k52 => k_is)
    (case a53 => k_is)
    (case l53 => k_is)
    (case c53 => k_is)
    (case k53 => k_is)
    (case a54 => k_is)
    (case l54 => k_is)
    (case c54 => k_is)
    (case k54 => k_is)
    (case a55 => k_is)
    (case l55 => k_is)
    (case c55 => k_is)
    (case k55 => k_is)
    (case a56 => k_is)
    (case l56 => k_is)
    (case c56 => k_is)
    (case k56 => k_is)
    (case a57 => k_is)
    (case l57 => k_is)
    (case c57 => k_is)
    (case k57 => k_is)
    (case a58 => k_is)
    (case l58 => k_is)
    (case c58 => k_is)
    (case k58 => k_is)
    (case a59 => k_is)
    (case l59 => k_is)
    (case c59 => k_is)
    (case k59 => k_is)
    (case a60 => k_is)
    (case l60 => k_is)
    (case c60 => k_is)
    (case k60 => k_is)
    (case a61 => k_is)
    (case l61 => k_is)
    (case c61 => k_is)
    (case k61 => k_is)
    (case a62 => k_is)
    (case l62 => k_is)
    (case c62 => k_is)
    (case k62 => k_is)
    (case a63 => k_is)
    (case l63 => k_is)
    (case c63 => k_is)
    (case k63 => k_is)
    (case a64 => k_is)
    (case l64 => k_is)
    (case c64 => k_is)
    (case k64 => k_is)
    (case a65 => k_is)
    (case l65 => k_is)
    (case c65 => k_is)
    (case k65 => k_is)
    (case a66 => k_is)
    (case l66 => k_is)
    (case c66 => k_is)
    (case k66 => k_is)
    (case a67 => k_is)
    (case l67 => k_is)
    (case c67 => k_is)
    (case k67 => k_is)
    (case pg_End => k_is)
    (case hd_End => k_is)
    (case po_End => k_is)
    (case sa_End => k_is)
    (case mk_End => k_is)
    (case kc_End => k_is)
    (case pg_Pile => k_is)
    (case hd_Pile => k_is)
    (case po_Pile => k_is)
    (case sa_Pile => k_is)
    (case mk_Pile => k_is)
    (case kc_Pile => k_is)
    (case nA_End_behind => k_is)
    (case nA_End_come => k_is)
    (case nA_End_early => k_is)
    (case nA_End_early_fin => k_is)
    (case nA_End_error => k_is)
    (case nA_End_first => k_is)
    (case nA_End_has_closed => k_is)
    (case nA_End_most => k_is)
    (case nA_End_nxt => k_is)
    (case nA_End_ours => k_is)
    (case nA_End_owed_reset => k_is)
    (case nA_End_owes_answer => k_is)
    (case nA_End_owes_syn => k_is)
    (case nA_End_probes => k_is)
    (case nA_End_rcv => k_is)
    (case nA_End_since => k_is)
    (case nA_End_state => k_is)
    (case nA_End_theirs => k_is)
    (case nA_End_told => k_is)
    (case nA_End_told_by => k_is)
    (case nA_End_tries => k_is)
    (case nA_End_una => k_is)
    (case nA_End_wait => k_is)
    (case nA_End_wnd => k_is)
    (case nA_End_written => k_is)
    (case nA_Pile_row => k_is)
    (case g_ACK => k_is)
    (case g_ANSWER => k_is)
    (case g_CLOSED => k_is)
    (case g_CLOSE_WAIT => k_is)
    (case g_CLOSING => k_is)
    (case g_DATA => k_is)
    (case g_FIN => k_is)
    (case g_FIRST_WAIT => k_is)
    (case g_FLAGS => k_is)
    (case g_GOAL => k_is)
    (case g_GREATEST_DATA => k_is)
    (case g_GREATEST_FLAGS => k_is)
    (case g_GREATEST_WORD => k_is)
    (case g_HALF_ROUND => k_is)
    (case g_LAST_ACK => k_is)
    (case g_LAST_WAIT => k_is)
    (case g_LEAST_MOST => k_is)
    (case g_LISTEN => k_is)
    (case g_LONGEST_WAIT => k_is)
    (case g_LONG_HEAD => k_is)
    (case g_MOST => k_is)
    (case g_MOST_TRIES => k_is)
    (case g_MOST_UNTOLD => k_is)
    (case g_NO_ERROR => k_is)
    (case g_NUMBER => k_is)
    (case g_OPEN => k_is)
    (case g_PSH => k_is)
    (case g_REFUSED => k_is)
    (case g_RIGHT_SUM => k_is)
    (case g_ROOM => k_is)
    (case g_ROUND => k_is)
    (case g_RST => k_is)
    (case g_SHORT_HEAD => k_is)
    (case g_SOURCE => k_is)
    (case g_SYN => k_is)
    (case g_SYN_COME => k_is)
    (case g_SYN_SENT => k_is)
    (case g_TIME => k_is)
    (case g_TIME_WAIT => k_is)
    (case g_WAIT_ONE => k_is)
    (case g_WINDOW => k_is)
    (case g_WORDS => k_is)
    (case z_bool => k_is)
    (case z_int => k_is)
    (case z_isinstance => k_is)
    (case z_len => k_is)
    (case z_list => k_is)
    (case z_min => k_is)
    (case z_range => k_is)
    (case z_sum => k_is)
    (case z_tuple => k_is)
#print axioms PySem.Challenge.cw_wirestream_k12_closed_and_listening_holds
